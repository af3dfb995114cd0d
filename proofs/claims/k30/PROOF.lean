import PyProof.Rows.All
import Wide.All
import OpenK.AllK
import Wide.FinOn
import HandS.ForMost
import HandS.ForExc
import HandS.ExcIs
import HandS.IsInst
import HandS.Evl
import HandS.Walk
import HandS.More
import HandS.Wide
import HandS.TupLen
import HandS.Star
import HandS.Text
import HandS.Iter
import HandS.Rev
import HandS.Conv
import HandS.TryOnly
import HandS.Style
import HandS.Zip
import KE.GoesEnumKw
import HandS.MakeKwOnly
import HandS.Defaults
import HandS.DictComp
import HandS.SortRule
import KE.SortData
import KE.KeyNested
import KE.KDictKeyed
import HandS.DictTup
import HandS.CallSlots
import PySem.Challenge.RW_paritypool_k30_members
set_option Elab.async false
set_option linter.all false
set_option maxRecDepth 100000
set_option maxHeartbeats 2000000
namespace PySem
open Sem (wp)
namespace ZS

abbrev ZOb (h : Heap) (z TI TO : Addr) (f0 f1 : Value) : Prop :=
  h.get? z = some { cls := .type "zip", dict := none, data := .fields #[f0, f1, .bool false, .ref TI, .ref TO], slots := #[] }
abbrev refs1 (ps : List (Addr × Addr × Bool)) : List Value := ps.map fun p => .ref p.1
abbrev ZTup (h : Heap) (T : Addr) (xs : List Value) : Prop := h.get? T = some { cls := .type "tuple", data := .seq xs.toArray }
structure ZApart (z TI TO : Addr) (ps : List (Addr × Addr × Bool)) : Prop where
  TIz : TI ≠ z
  TOz : TO ≠ z
  TITO : TI ≠ TO
  it : ∀ p ∈ ps, p.1 ≠ z ∧ p.1 ≠ TI ∧ p.1 ≠ TO
  ls : ∀ p ∈ ps, p.2.1 ≠ z ∧ p.2.1 ≠ TO ∧ ∀ q ∈ ps, p.2.1 ≠ q.1
  nd : (ps.map (·.1)).Nodup
abbrev F0 (f : Value) : Prop := f = .none ∨ ∃ (a : Int) (t : Tok), f = .int a t
abbrev Keep (z TO : Addr) (ps : List (Addr × Addr × Bool)) (h h' : Heap) : Prop := ∀ c o, c ≠ z → c ≠ TO → (∀ p ∈ ps, c ≠ p.1) → h.get? c = some o → h'.get? c = some o

def clsI (k : Bool) : String := if k then "tuple_iterator" else "list_iterator"
def clsS (k : Bool) : String := if k then "tuple" else "list"
/-- an iterator over the list or tuple l, at its i-th item -/
def It1 (h : Heap) (it : Addr) (l : Addr × Bool) (i : Nat) : Prop := ∃ o, h.get? it = some o ∧ o.cls = .type (clsI l.2) ∧ o.data = .fields #[.ref l.1, .int i 0]
def Sq1 (h : Heap) (l : Addr × Bool) (items : Array Value) : Prop := ∃ o, h.get? l.1 = some o ∧ o.cls = .type (clsS l.2) ∧ ∃ n, o.data = .seq items n
theorem It1.extBut {h h' : Heap} {a b : Addr} {l : Addr × Bool} {i : Nat} (x : It1 h a l i) (hs : Heap.ExtBut b h h') (hab : a ≠ b) : It1 h' a l i := let ⟨o, ho, r⟩ := x; ⟨o, hs a o hab ho, r⟩
theorem It1.at {h h' : Heap} {a : Addr} {l : Addr × Bool} {i : Nat} (x : It1 h a l i) (hs : ∀ o, h.get? a = some o → h'.get? a = some o) : It1 h' a l i := let ⟨o, ho, r⟩ := x; ⟨o, hs o ho, r⟩
theorem Sq1.extBut {h h' : Heap} {b : Addr} {l : Addr × Bool} {xs : Array Value} (x : Sq1 h l xs) (hs : Heap.ExtBut b h h') (hab : l.1 ≠ b) : Sq1 h' l xs := let ⟨o, ho, r⟩ := x; ⟨o, hs l.1 o hab ho, r⟩
theorem nd_mid {ps1 ps2 : List (Addr × Addr × Bool)} {p : Addr × Addr × Bool} (h : ((ps1 ++ p :: ps2).map (·.1)).Nodup) : (∀ q ∈ ps1, q.1 ≠ p.1) ∧ (∀ q ∈ ps2, q.1 ≠ p.1) := by
  rw [List.map_append, List.map_cons, List.nodup_append] at h
  obtain ⟨_, h2, h3⟩ := h
  rw [List.nodup_cons] at h2
  exact ⟨fun q hq e => h3 q.1 (List.mem_map_of_mem hq) p.1 (by simp) e, fun q hq e => h2.1 (by rw [← e]; exact List.mem_map_of_mem hq)⟩

section
variable {prog : Program} {w : World} {A : Around} {E : Value → Shared → Prop} {s : Shared}

theorem nextOf_item {it : Addr} {l : Addr × Bool} {i : Nat} {items : Array Value} {x : Value} {Q : Value → Shared → Prop} (hit : It1 s.heap it l i)
    (hl : Sq1 s.heap l items) (hx : items[i]? = some x) (hQ : ∀ h', It1 h' it l (i + 1) → Heap.SameBut it s.heap h' → Q x { s with heap := h' }) :
    wpAny (model prog w) A (Builtin.SmallTypes.nextOf (.ref it)) Q E s := by
  obtain ⟨l, k⟩ := l
  cases k with
  | false => exact wpAny_nextOf_list_item hit hl hx hQ
  | true => exact RZ.nextOf_tuple_item hit hl hx hQ
theorem nextOf_end {it : Addr} {l : Addr × Bool} {i : Nat} {items : Array Value} {Q : Value → Shared → Prop} (hh : A.handled = none) (hit : It1 s.heap it l i)
    (hl : Sq1 s.heap l items) (hx : items[i]? = none) (hE : ∀ h' e, Heap.ExtBut it s.heap h' → (∃ o, h'.get? e = some o ∧ o.cls = .type "StopIteration") → E (.ref e) { s with heap := h' }) :
    wpAny (model prog w) A (Builtin.SmallTypes.nextOf (.ref it)) Q E s := by
  obtain ⟨l, k⟩ := l
  cases k with
  | false => exact wpAny_nextOf_list_end hh hit hl hx hE
  | true => exact RZ.nextOf_tuple_end hh hit hl hx hE
theorem pyIter_sq {l : Addr × Bool} {items : Array Value} {Q : Value → Shared → Prop} (hl : Sq1 s.heap l items)
    (hQ : Q (.ref s.heap.objs.size) { s with heap := s.heap.push { cls := .type (clsI l.2), data := .fields #[.ref l.1, .int 0 0] } }) : wpAny (model prog w) A (pyIter (.ref l.1)) Q E s := by
  obtain ⟨l, k⟩ := l
  cases k with
  | false => exact wpAny_pyIter_list hl hQ
  | true => exact wpAny_pyIter_tuple hl hQ
theorem updTup {T : Addr} {xs : List Value} {k : Nat} {x : Value} {Q : Unit → Shared → Prop} (hT : ZTup s.heap T xs) (hz : xs.length ≤ sizeLine)
    (h : ∀ h', ZTup h' T (xs.set k x) → Heap.SameBut T s.heap h' → Q () { s with heap := h' }) :
    wpAny (model prog w) A (updateSeq T (·.setIfInBounds k x)) Q E s := by
  refine wpAny_updateSeq hT rfl (h _ ?_ (Heap.SameBut.update ..)) (by simpa using hz) (by simp; omega)
  rw [ZTup, Heap.get?_update_self _ hT rfl]
  simp [Obj.mapSeq]

theorem wpAny_loadIfAlive {M : Model} {a : Addr} {Q : Option Obj → Shared → Prop} (h : Q (s.heap.get? a) s) : wpAny M A (loadIfAlive a) Q E s := fun _ _ _ => h
/-- the check whether the tuple is free: it may mark the zip object -/
theorem freeCheck {z TI TO : Addr} {f0 f1 : Value} {Q : Bool → Shared → Prop} (hz : ZOb s.heap z TI TO f0 f1) (hf : F0 f0)
    (h1 : Q true s) (h2 : ∀ h' f1', ZOb h' z TI TO f0 f1' → Heap.SameBut z s.heap h' → Q false { s with heap := h' }) :
    wpAny (model prog w) A (Builtin.SmallTypes.ownedTupleIsFree (.ref z)) Q E s := by
  unfold Builtin.SmallTypes.ownedTupleIsFree
  refine wpAny_bind (wpAny_field hz rfl (x := f0) rfl ?_)
  rcases hf with rfl | ⟨a, t, rfl⟩
  · exact wpAny_pure h1
  · refine wpAny_bind (wpAny_loadIfAlive ?_)
    cases hg : s.heap.get? a.toNat with
    | none => exact wpAny_pure h1
    | some o =>
      show wpAny _ _ (field (.ref z) 1 >>= _) _ _ _
      refine wpAny_bind (wpAny_field hz rfl (x := f1) rfl ?_)
      dsimp only
      split
      · refine wpAny_bind (wpAny_setField_rec hz (by simp) fun h₁ hz₁ hs₁ => ?_)
        exact wpAny_pure (h2 h₁ _ hz₁ hs₁)
      · exact wpAny_pure (h2 s.heap f1 hz ⟨rfl, fun _ _ => rfl⟩)

/-- one turn of zip(*lists): each list has an item at i -/
theorem zipS_next_item {z TI TO : Addr} {ps : List (Addr × Addr × Bool)} {i : Nat} {val : Addr × Bool → Value} {f0 f1 : Value} {ts : List Value} {Q : Value → Shared → Prop} (D : ZApart z TI TO ps)
    (hz : ZOb s.heap z TI TO f0 f1) (hf : F0 f0) (hTI : ZTup s.heap TI (refs1 ps)) (hTO : ZTup s.heap TO ts) (hts : ts.length = ps.length) (hn : ps.length ≤ sizeLine) (hne : ps ≠ [])
    (hit : ∀ p ∈ ps, It1 s.heap p.1 p.2 i) (hv : ∀ p ∈ ps, ∃ items, Sq1 s.heap p.2 items ∧ items[i]? = some (val p.2))
    (hQ : ∀ h' f0' f1', ZOb h' z TI TO f0' f1' → F0 f0' → (∃ ts', ZTup h' TO ts' ∧ ts'.length = ps.length) → (∀ p ∈ ps, It1 h' p.1 p.2 (i + 1)) → ZTup h' s.heap.objs.size (ps.map fun p => val p.2) →
      Keep z TO ps s.heap h' → Q (.ref s.heap.objs.size) { s with heap := h' }) :
    wpAny (model prog w) A (Builtin.«zip.__next__» ⟨[.ref z], []⟩) (fun fin s' => ∃ v, fin = .done (.ret v) ∧ Q v s') E s := by
  show wpAny _ _ (field (.ref z) 2 >>= _) _ _ _
  refine wpAny_bind (wpAny_field hz rfl (x := .bool false) rfl ?_)
  show wpAny _ _ (field (.ref z) 3 >>= _) _ _ _
  refine wpAny_bind (wpAny_field hz rfl (x := .ref TI) rfl ?_)
  refine wpAny_bind (wpAny_seqItems hTI rfl ?_)
  have hem : (refs1 ps).toArray.isEmpty = false := by cases ps with | nil => exact absurd rfl hne | cons _ _ => rfl
  simp only [hem]
  have hzlt : z < s.heap.objs.size := Heap.lt_size hz
  have hTOlt : TO < s.heap.objs.size := Heap.lt_size hTO
  show wpAny _ _ (Builtin.SmallTypes.ownedTupleIsFree (.ref z) >>= _) _ _ _
  refine wpAny_bind (freeCheck hz hf ?_ fun hA f1A hzA hsA => ?_)
  · simp only [if_true]
    refine wpAny_bind (wpAny_rule ?_)
    refine wpAny_bind (wpAny_field hz rfl (x := .ref TO) rfl ?_)
    refine wpAny_bind (wpAny_setField_rec hz (by simp) fun h₁ hz₁ hs₁ => ?_)
    replace hz₁ : ZOb h₁ z TI TO .ellipsis f1 := hz₁
    refine wpAny_bind ?_
    refine wpAny_forIn_list _ (fun rest b s' => ∃ ps1 ps2, ps = ps1 ++ ps2 ∧ rest = (refs1 ps2).zipIdx ps1.length ∧ b = (none, ()) ∧ ∃ h', s' = { s with heap := h' } ∧ ZOb h' z TI TO .ellipsis f1 ∧
      (∃ ts', ZTup h' TO ((ps1.map fun p => val p.2) ++ ts') ∧ ts'.length = ps2.length) ∧ (∀ p ∈ ps1, It1 h' p.1 p.2 (i + 1)) ∧ (∀ p ∈ ps2, It1 h' p.1 p.2 i) ∧ h'.objs.size = s.heap.objs.size ∧ Keep z TO ps s.heap h') _ ?_ ?_ _ _ ?_
    · rintro ⟨u, k⟩ rest b s' ⟨ps1, ps2, e, er, rfl, h', rfl, hz', ⟨ts', hTO', hl'⟩, ha, hb, hsz, hk⟩
      cases ps2 with
      | nil => simp at er
      | cons p ps2 =>
        simp only [refs1, List.map_cons, List.zipIdx_cons, List.cons.injEq, Prod.mk.injEq] at er
        obtain ⟨⟨rfl, rfl⟩, rfl⟩ := er
        cases ts' with
        | nil => simp at hl'
        | cons y ts' =>
        have hmem : p ∈ ps := by rw [e]; simp
        obtain ⟨pz, pTI, pTO⟩ := D.it p hmem
        obtain ⟨lz, lTO, lit⟩ := D.ls p hmem
        obtain ⟨items, hli, hx⟩ := hv p hmem
        obtain ⟨nd1, nd2⟩ := nd_mid (by rw [← e]; exact D.nd)
        have hli' : Sq1 h' p.2 items := by obtain ⟨o, ho, r⟩ := hli; exact ⟨o, hk _ _ lz lTO (fun q hq => lit q hq) ho, r⟩
        refine wpAny_bind (wpAny_onRaise ?_)
        show wpAny _ _ (Builtin.SmallTypes.nextOf (.ref p.1) >>= _) _ _ _
        refine wpAny_bind (nextOf_item (s := { s with heap := h' }) (hb p (by simp)) hli' hx fun h₂ h1₂ hs₂ => wpAny_pure ?_)
        have hTO₂ : ZTup h₂ TO ((ps1.map fun p => val p.2) ++ y :: ts') := hs₂.extBut _ _ (Ne.symm pTO) hTO'
        refine wpAny_bind (wpAny_seqItems (s := { s with heap := h₂ }) hTO₂ rfl ?_)
        have hlen : ((ps1.map fun p => val p.2) ++ y :: ts').length ≤ sizeLine := by
          rw [e] at hn; simp at hn hl' ⊢; omega
        refine wpAny_bind (updTup (s := { s with heap := h₂ }) hTO₂ hlen fun h₃ hTO₃ hs₃ => ?_)
        refine wpAny_bind (wpAny_letGo (wpAny_pure ?_))
        refine ⟨ps1 ++ [p], ps2, by rw [e]; simp, by simp [refs1], rfl, h₃, rfl, hs₃.extBut _ _ (Ne.symm D.TOz) (hs₂.extBut _ _ (Ne.symm pz) hz'), ⟨ts', ?_, by simpa using hl'⟩, ?_, ?_, ?_, ?_⟩
        · have e3 : (((ps1.map fun p => val p.2) ++ y :: ts').set ps1.length (val p.2)) = ((ps1 ++ [p]).map fun p => val p.2) ++ ts' := by
            rw [List.set_append_right _ _ (by simp)]; simp
          rw [← e3]; exact hTO₃
        · intro q hq
          rcases List.mem_append.1 hq with hq | hq
          · have hqm : q ∈ ps := by rw [e]; simp [hq]
            exact ((ha q hq).extBut hs₂.extBut (nd1 q hq)).extBut hs₃.extBut (D.it q hqm).2.2
          · simp only [List.mem_singleton] at hq
            subst hq
            exact h1₂.extBut hs₃.extBut pTO
        · intro q hq
          have hqm : q ∈ ps := by rw [e]; simp [hq]
          exact ((hb q (by simp [hq])).extBut hs₂.extBut (nd2 q hq)).extBut hs₃.extBut (D.it q hqm).2.2
        · rw [hs₃.1, hs₂.1]; exact hsz
        · intro c o c1 c2 c3 e'
          exact hs₃.extBut _ _ c2 (hs₂.extBut _ _ (c3 p hmem) (hk c o c1 c2 c3 e'))
    · rintro b s' ⟨ps1, ps2, e, er, rfl, h', rfl, hz', ⟨ts', hTO', hl'⟩, ha, hb, hsz, hk⟩
      have e2 : ps2 = [] := by
        cases ps2 with
        | nil => rfl
        | cons p ps2 => simp [refs1] at er
      subst e2
      have e3 : ts' = [] := by simpa using hl'
      subst e3
      simp only [List.append_nil] at e hTO'
      subst e
      refine wpAny_bind (wpAny_seqItems (s := { s with heap := h' }) hTO' rfl ?_)
      refine wpAny_bind (wpAny_newTuple (s := { s with heap := h' }) ?_ (by simpa using hn))
      show wpAny _ _ (Builtin.SmallTypes.ownedTupleHandOut (.ref z) (.ref h'.objs.size) >>= _) _ _ _
      refine wpAny_bind ?_
      unfold Builtin.SmallTypes.ownedTupleHandOut
      have hz₆ : ZOb (h'.push { cls := .type "tuple", data := .seq (ps.map fun p => val p.2).toArray.toList.toArray }) z TI TO .ellipsis f1 := Heap.get?_push_of_some _ hz'
      refine wpAny_bind (wpAny_setField_rec hz₆ (by simp) fun h₇ hz₇ hs₇ => ?_)
      replace hz₇ : ZOb h₇ z TI TO (rawInt h'.objs.size) f1 := hz₇
      refine wpAny_setField_rec hz₇ (by simp) fun h₈ hz₈ hs₈ => ?_
      replace hz₈ : ZOb h₈ z TI TO (rawInt h'.objs.size) (.bool false) := hz₈
      have hzl' : z < h'.objs.size := by rw [hsz]; exact hzlt
      have up : ∀ c o, c ≠ z → h'.get? c = some o → h₈.get? c = some o := fun c o c1 e => hs₈.extBut _ _ c1 (hs₇.extBut _ _ c1 (Heap.get?_push_of_some _ e))
      have hT₈ : ZTup h₈ h'.objs.size (ps.map fun p => val p.2) := by
        have z0 := hs₈.extBut _ _ (Nat.ne_of_gt hzl') (hs₇.extBut _ _ (Nat.ne_of_gt hzl') (Heap.get?_push_size h' rfl))
        simpa using z0
      refine wpAny_pure ⟨_, rfl, ?_⟩
      show Q (.ref h'.objs.size) _
      rw [hsz] at hT₈ ⊢
      exact hQ h₈ _ _ hz₈ (.inr ⟨_, _, rfl⟩) ⟨_, up _ _ D.TOz hTO', by simp⟩ (fun p hp => (ha p hp).at fun o e => up _ o (D.it p hp).1 e) hT₈ fun c o c1 c2 c3 e => up c o c1 (hk c o c1 c2 c3 e)
    · refine ⟨[], ps, rfl, rfl, rfl, h₁, rfl, hz₁, ⟨ts, hs₁.extBut _ _ D.TOz hTO, hts⟩, by simp, fun p hp => (hit p hp).extBut hs₁.extBut (D.it p hp).1, hs₁.1, fun c o c1 _ _ e => hs₁.extBut _ _ c1 e⟩
  · simp only [Bool.false_eq_true, if_false]
    refine wpAny_bind ?_
    rw [← Array.forIn_toList]
    refine wpAny_forIn_list _ (fun rest b s' => ∃ ps1 ps2, ps = ps1 ++ ps2 ∧ rest = (refs1 ps2) ∧ b = (none, (ps1.map fun p => val p.2).toArray) ∧ ∃ h', s' = { s with heap := h' } ∧ ZOb h' z TI TO f0 f1A ∧ ZTup h' TO ts ∧
      (∀ p ∈ ps1, It1 h' p.1 p.2 (i + 1)) ∧ (∀ p ∈ ps2, It1 h' p.1 p.2 i) ∧ h'.objs.size = s.heap.objs.size ∧ Keep z TO ps s.heap h') _ ?_ ?_ _ _ ?_
    · rintro u rest b s' ⟨ps1, ps2, e, er, rfl, h', rfl, hz', hTO', ha, hb, hsz, hk⟩
      cases ps2 with
      | nil => simp at er
      | cons p ps2 =>
        simp only [refs1, List.map_cons, List.cons.injEq] at er
        obtain ⟨rfl, rfl⟩ := er
        have hmem : p ∈ ps := by rw [e]; simp
        obtain ⟨pz, pTI, pTO⟩ := D.it p hmem
        obtain ⟨lz, lTO, lit⟩ := D.ls p hmem
        obtain ⟨items, hli, hx⟩ := hv p hmem
        obtain ⟨nd1, nd2⟩ := nd_mid (by rw [← e]; exact D.nd)
        have hli' : Sq1 h' p.2 items := by obtain ⟨o, ho, r⟩ := hli; exact ⟨o, hk _ _ lz lTO (fun q hq => lit q hq) ho, r⟩
        refine wpAny_bind (wpAny_holding ?_)
        show wpAny _ _ (Builtin.SmallTypes.nextOf (.ref p.1) >>= _) _ _ _
        refine wpAny_bind (nextOf_item (s := { s with heap := h' }) (hb p (by simp)) hli' hx fun h₂ h1₂ hs₂ => wpAny_pure ?_)
        refine wpAny_pure ?_
        refine ⟨ps1 ++ [p], ps2, by rw [e]; simp, rfl, by simp, h₂, rfl, hs₂.extBut _ _ (Ne.symm pz) hz', hs₂.extBut _ _ (Ne.symm pTO) hTO', ?_, ?_, ?_, ?_⟩
        · intro q hq
          rcases List.mem_append.1 hq with hq | hq
          · exact (ha q hq).extBut hs₂.extBut (nd1 q hq)
          · simp only [List.mem_singleton] at hq
            subst hq
            exact h1₂
        · intro q hq
          exact (hb q (by simp [hq])).extBut hs₂.extBut (nd2 q hq)
        · rw [hs₂.1]; exact hsz
        · intro c o c1 c2 c3 e'
          exact hs₂.extBut _ _ (c3 p hmem) (hk c o c1 c2 c3 e')
    · rintro b s' ⟨ps1, ps2, e, er, rfl, h', rfl, hz', hTO', ha, hb, hsz, hk⟩
      have e2 : ps2 = [] := by
        cases ps2 with
        | nil => rfl
        | cons p ps2 => simp [refs1] at er
      subst e2
      simp only [List.append_nil] at e
      subst e
      refine wpAny_bind (wpAny_newTuple (s := { s with heap := h' }) ?_ (by simpa using hn))
      refine wpAny_pure ⟨_, rfl, ?_⟩
      show Q (.ref h'.objs.size) _
      have up : ∀ c o, h'.get? c = some o → (h'.push { cls := .type "tuple", data := .seq (ps.map fun p => val p.2).toArray.toList.toArray }).get? c = some o := fun c o e => Heap.get?_push_of_some _ e
      have hT : ZTup (h'.push { cls := .type "tuple", data := .seq (ps.map fun p => val p.2).toArray.toList.toArray }) h'.objs.size (ps.map fun p => val p.2) := by
        have z0 : (h'.push { cls := .type "tuple", data := .seq (ps.map fun p => val p.2).toArray.toList.toArray }).get? h'.objs.size = _ := Heap.get?_push_size h' rfl
        simpa using z0
      rw [hsz] at hT
      rw [hsz]
      exact hQ _ _ _ (up _ _ hz') hf ⟨_, up _ _ hTO', hts⟩ (fun p hp => (ha p hp).at fun o e => up _ o e) hT fun c o c1 c2 c3 e => up c o (hk c o c1 c2 c3 e)
    · refine ⟨[], ps, rfl, rfl, rfl, hA, rfl, hzA, hsA.extBut _ _ D.TOz hTO, by simp, fun p hp => (hit p hp).extBut hsA.extBut (D.it p hp).1, hsA.1, fun c o c1 _ _ e => hsA.extBut _ _ c1 e⟩

/-- the last turn of zip(*lists): the first list has ended -/
theorem zipS_next_end {z TI TO : Addr} {p : Addr × Addr × Bool} {ps : List (Addr × Addr × Bool)} {i : Nat} {f0 f1 : Value} {ts : List Value} {items : Array Value} {Q : Fin → Shared → Prop} (hh : A.handled = none) (D : ZApart z TI TO (p :: ps))
    (hz : ZOb s.heap z TI TO f0 f1) (hf : F0 f0) (hTI : ZTup s.heap TI (refs1 (p :: ps))) (hTO : ZTup s.heap TO ts)
    (hit : It1 s.heap p.1 p.2 i) (hl : Sq1 s.heap p.2 items) (hx : items[i]? = none)
    (hE : ∀ h' e, Keep z TO (p :: ps) s.heap h' → (∃ o, h'.get? e = some o ∧ o.cls = .type "StopIteration") → E (.ref e) { s with heap := h' }) :
    wpAny (model prog w) A (Builtin.«zip.__next__» ⟨[.ref z], []⟩) Q E s := by
  show wpAny _ _ (field (.ref z) 2 >>= _) _ _ _
  refine wpAny_bind (wpAny_field hz rfl (x := .bool false) rfl ?_)
  show wpAny _ _ (field (.ref z) 3 >>= _) _ _ _
  refine wpAny_bind (wpAny_field hz rfl (x := .ref TI) rfl ?_)
  refine wpAny_bind (wpAny_seqItems hTI rfl ?_)
  have hem : (refs1 (p :: ps)).toArray.isEmpty = false := rfl
  simp only [hem]
  obtain ⟨pz, pTI, pTO⟩ := D.it p (by simp)
  obtain ⟨lz, lTO, lit⟩ := D.ls p (by simp)
  show wpAny _ _ (Builtin.SmallTypes.ownedTupleIsFree (.ref z) >>= _) _ _ _
  refine wpAny_bind (freeCheck hz hf ?_ fun hA f1A hzA hsA => ?_)
  · simp only [if_true]
    refine wpAny_bind (wpAny_rule ?_)
    refine wpAny_bind (wpAny_field hz rfl (x := .ref TO) rfl ?_)
    refine wpAny_bind (wpAny_setField_rec hz (by simp) fun h₁ hz₁ hs₁ => ?_)
    replace hz₁ : ZOb h₁ z TI TO .ellipsis f1 := hz₁
    refine wpAny_bind ?_
    simp only [refs1, List.map_cons, List.zipIdx_cons, List.forIn_cons]
    refine wpAny_bind (wpAny_bind (wpAny_onRaise ?_))
    show wpAny _ _ (Builtin.SmallTypes.nextOf (.ref p.1) >>= _) _ _ _
    refine wpAny_bind (nextOf_end (s := { s with heap := h₁ }) hh (hit.extBut hs₁.extBut pz) (hl.extBut hs₁.extBut lz) hx fun h₂ e hs₂ he => ?_)
    obtain ⟨oe, hoe, hce⟩ := he
    have hz₂ : ZOb h₂ z TI TO .ellipsis f1 := hs₂ _ _ (Ne.symm pz) hz₁
    have hez : e ≠ z := fun x => by subst x; rw [hz₂] at hoe; cases hoe; simp at hce
    refine wpAny_setField_rec (s := { s with heap := h₂ }) hz₂ (by simp) fun h₃ _ hs₃ => hE h₃ e (fun c o c1 c2 c3 x => hs₃.extBut _ _ c1 (hs₂ _ _ (c3 p (by simp)) (hs₁.extBut _ _ c1 x))) ⟨oe, hs₃.extBut _ _ hez hoe, hce⟩
  · simp only [Bool.false_eq_true, if_false]
    refine wpAny_bind ?_
    rw [← Array.forIn_toList]
    simp only [refs1, List.map_cons, List.forIn_cons]
    refine wpAny_bind (wpAny_bind (wpAny_holding ?_))
    show wpAny _ _ (Builtin.SmallTypes.nextOf (.ref p.1) >>= _) _ _ _
    refine wpAny_bind (nextOf_end (s := { s with heap := hA }) hh (hit.extBut hsA.extBut pz) (hl.extBut hsA.extBut lz) hx fun h₂ e hs₂ he => ?_)
    exact hE h₂ e (fun c o c1 c2 c3 x => hs₂ _ _ (c3 p (by simp)) (hsA.extBut _ _ c1 x)) he

theorem pyNext_zipS_item {z TI TO : Addr} {ps : List (Addr × Addr × Bool)} {i : Nat} {val : Addr × Bool → Value} {f0 f1 : Value} {ts : List Value} {Q : Option Value → Shared → Prop} (D : ZApart z TI TO ps)
    (hz : ZOb s.heap z TI TO f0 f1) (hf : F0 f0) (hTI : ZTup s.heap TI (refs1 ps)) (hTO : ZTup s.heap TO ts) (hts : ts.length = ps.length) (hn : ps.length ≤ sizeLine) (hne : ps ≠ [])
    (hit : ∀ p ∈ ps, It1 s.heap p.1 p.2 i) (hv : ∀ p ∈ ps, ∃ items, Sq1 s.heap p.2 items ∧ items[i]? = some (val p.2))
    (hQ : ∀ h' f0' f1', ZOb h' z TI TO f0' f1' → F0 f0' → (∃ ts', ZTup h' TO ts' ∧ ts'.length = ps.length) → (∀ p ∈ ps, It1 h' p.1 p.2 (i + 1)) → ZTup h' s.heap.objs.size (ps.map fun p => val p.2) →
      Keep z TO ps s.heap h' → Q (some (.ref s.heap.objs.size)) { s with heap := h' }) :
    wpAny (model prog w) A (pyNext (.ref z)) Q E s := by
  have hT : s.TypeIs (.ref z) "zip" := ⟨_, hz, rfl⟩
  unfold pyNext
  exact wpAny_bind (wpAny_attempt (wpAny_callSpecial?_slot (name := Str.ofString "__next__") hT F.slot_zip_next
    (wpAny_call_entry F.slot_zip_next hT F.entry_zip_next
      (zipS_next_item D hz hf hTI hTO hts hn hne hit hv fun h' a b a1 a2 a3 a4 a5 a6 => wpAny_pure (hQ h' a b a1 a2 a3 a4 a5 a6)) (F.args_zip_next_1 _))))

theorem pyNext_zipS_end {z TI TO : Addr} {p : Addr × Addr × Bool} {ps : List (Addr × Addr × Bool)} {i : Nat} {f0 f1 : Value} {ts : List Value} {items : Array Value} {Q : Option Value → Shared → Prop} (hh : A.handled = none) (D : ZApart z TI TO (p :: ps))
    (hz : ZOb s.heap z TI TO f0 f1) (hf : F0 f0) (hTI : ZTup s.heap TI (refs1 (p :: ps))) (hTO : ZTup s.heap TO ts)
    (hit : It1 s.heap p.1 p.2 i) (hl : Sq1 s.heap p.2 items) (hx : items[i]? = none)
    (hQ : ∀ h', Keep z TO (p :: ps) s.heap h' → Q none { s with heap := h' }) : wpAny (model prog w) A (pyNext (.ref z)) Q E s := by
  have hT : s.TypeIs (.ref z) "zip" := ⟨_, hz, rfl⟩
  unfold pyNext
  refine wpAny_bind (wpAny_attempt (wpAny_callSpecial?_slot (name := Str.ofString "__next__") hT F.slot_zip_next
    (wpAny_call_entry F.slot_zip_next hT F.entry_zip_next (zipS_next_end hh D hz hf hTI hTO hit hl hx fun h' e hk he => ?_) (F.args_zip_next_1 _))))
  obtain ⟨o, ho, hc⟩ := he
  refine wpAny_bind (wpAny_isInstance (T := "StopIteration") (b := true) ⟨o, ho, hc⟩ isSubtype_stop ?_)
  exact wpAny_pure (hQ _ hk)

theorem pyIter_zipS {z TI TO : Addr} {f0 f1 : Value} {Q : Value → Shared → Prop} (hz : ZOb s.heap z TI TO f0 f1) (h : Q (.ref z) s) : wpAny (model prog w) A (pyIter (.ref z)) Q E s := by
  have hT : s.TypeIs (.ref z) "zip" := ⟨_, hz, rfl⟩
  refine wpAny_pyIter_slot hT F.slot_zip_iter (wpAny_call_entry F.slot_zip_iter hT F.entry_zip_iter ?_ (F.args_zip_iter_1 _))
  show wpAny _ _ (ret (.ref z)) _ _ s
  exact wpAny_pure ⟨_, rfl, "zip", _, hT, F.slot_zip_next.lookup, h⟩

/-- the iterators laid one behind the other -/
def laid (h : Heap) : List (Addr × Bool) → Heap
  | [] => h
  | l :: ls => laid (h.push { cls := .type (clsI l.2), data := .fields #[.ref l.1, .int 0 0] }) ls
abbrev refsL (ls : List (Addr × Bool)) : List Value := ls.map fun l => Value.ref l.1
def pairs (n : Nat) : List (Addr × Bool) → List (Addr × Addr × Bool)
  | [] => []
  | l :: ls => (n, l) :: pairs (n + 1) ls

theorem typeCall_zip (xs : List Value) : checkTypeCall "zip" ⟨xs, []⟩ = pure () := by kernel_rfl
theorem newCall_zip0 : checkBuiltinCall "zip.__new__" ⟨[.type "zip"], []⟩ = pure () := by kernel_rfl
theorem newCall_zip1 (a : Value) : checkBuiltinCall "zip.__new__" ⟨[.type "zip", a], []⟩ = pure () := by kernel_rfl
theorem newCall_zip2 (a b : Value) : checkBuiltinCall "zip.__new__" ⟨[.type "zip", a, b], []⟩ = pure () := by kernel_rfl
theorem newCall_zip3 (a b c : Value) : checkBuiltinCall "zip.__new__" ⟨[.type "zip", a, b, c], []⟩ = pure () := by kernel_rfl
theorem newCall_zip4 (a b c d : Value) : checkBuiltinCall "zip.__new__" ⟨[.type "zip", a, b, c, d], []⟩ = pure () := by kernel_rfl
theorem newCall_zip5 (a b c d e : Value) : checkBuiltinCall "zip.__new__" ⟨[.type "zip", a, b, c, d, e], []⟩ = pure () := by kernel_rfl
theorem newCall_zip6 (a b c d e f : Value) : checkBuiltinCall "zip.__new__" ⟨[.type "zip", a, b, c, d, e, f], []⟩ = pure () := by kernel_rfl
theorem newCall_zip7 (a b c d e f g : Value) : checkBuiltinCall "zip.__new__" ⟨[.type "zip", a, b, c, d, e, f, g], []⟩ = pure () := by kernel_rfl
theorem newCall_zip8 (a b c d e f g h : Value) : checkBuiltinCall "zip.__new__" ⟨[.type "zip", a, b, c, d, e, f, g, h], []⟩ = pure () := by kernel_rfl
theorem newCall_zip : ∀ xs : List Value, xs.length ≤ 8 → checkBuiltinCall "zip.__new__" ⟨.type "zip" :: xs, []⟩ = pure ()
  | [], _ => newCall_zip0 
  | [a], _ => newCall_zip1 a
  | [a, b], _ => newCall_zip2 a b
  | [a, b, c], _ => newCall_zip3 a b c
  | [a, b, c, d], _ => newCall_zip4 a b c d
  | [a, b, c, d, e], _ => newCall_zip5 a b c d e
  | [a, b, c, d, e, f], _ => newCall_zip6 a b c d e f
  | [a, b, c, d, e, f, g], _ => newCall_zip7 a b c d e f g
  | [a, b, c, d, e, f, g, h], _ => newCall_zip8 a b c d e f g h
  | _ :: _ :: _ :: _ :: _ :: _ :: _ :: _ :: _ :: r, h => absurd h (by simp only [List.length_cons]; omega)
theorem objInit_zip1 (o a : Value) : argsOk "object.__init__" ⟨[o, a], []⟩ := by
  unfold argsOk; rw [signature?_of (id := "object.__init__") (n := ['_', '_', 't', 'i', 'n', 'i', '_', '_']) (o := ['t', 'c', 'e', 'j', 'b', 'o']) (by kernel_rfl) F.owner_object]; kernel_rfl
theorem objInit_zip2 (o a b : Value) : argsOk "object.__init__" ⟨[o, a, b], []⟩ := by
  unfold argsOk; rw [signature?_of (id := "object.__init__") (n := ['_', '_', 't', 'i', 'n', 'i', '_', '_']) (o := ['t', 'c', 'e', 'j', 'b', 'o']) (by kernel_rfl) F.owner_object]; kernel_rfl
theorem objInit_zip3 (o a b c : Value) : argsOk "object.__init__" ⟨[o, a, b, c], []⟩ := by
  unfold argsOk; rw [signature?_of (id := "object.__init__") (n := ['_', '_', 't', 'i', 'n', 'i', '_', '_']) (o := ['t', 'c', 'e', 'j', 'b', 'o']) (by kernel_rfl) F.owner_object]; kernel_rfl
theorem objInit_zip4 (o a b c d : Value) : argsOk "object.__init__" ⟨[o, a, b, c, d], []⟩ := by
  unfold argsOk; rw [signature?_of (id := "object.__init__") (n := ['_', '_', 't', 'i', 'n', 'i', '_', '_']) (o := ['t', 'c', 'e', 'j', 'b', 'o']) (by kernel_rfl) F.owner_object]; kernel_rfl
theorem objInit_zip5 (o a b c d e : Value) : argsOk "object.__init__" ⟨[o, a, b, c, d, e], []⟩ := by
  unfold argsOk; rw [signature?_of (id := "object.__init__") (n := ['_', '_', 't', 'i', 'n', 'i', '_', '_']) (o := ['t', 'c', 'e', 'j', 'b', 'o']) (by kernel_rfl) F.owner_object]; kernel_rfl
theorem objInit_zip6 (o a b c d e f : Value) : argsOk "object.__init__" ⟨[o, a, b, c, d, e, f], []⟩ := by
  unfold argsOk; rw [signature?_of (id := "object.__init__") (n := ['_', '_', 't', 'i', 'n', 'i', '_', '_']) (o := ['t', 'c', 'e', 'j', 'b', 'o']) (by kernel_rfl) F.owner_object]; kernel_rfl
theorem objInit_zip7 (o a b c d e f g : Value) : argsOk "object.__init__" ⟨[o, a, b, c, d, e, f, g], []⟩ := by
  unfold argsOk; rw [signature?_of (id := "object.__init__") (n := ['_', '_', 't', 'i', 'n', 'i', '_', '_']) (o := ['t', 'c', 'e', 'j', 'b', 'o']) (by kernel_rfl) F.owner_object]; kernel_rfl
theorem objInit_zip8 (o a b c d e f g h : Value) : argsOk "object.__init__" ⟨[o, a, b, c, d, e, f, g, h], []⟩ := by
  unfold argsOk; rw [signature?_of (id := "object.__init__") (n := ['_', '_', 't', 'i', 'n', 'i', '_', '_']) (o := ['t', 'c', 'e', 'j', 'b', 'o']) (by kernel_rfl) F.owner_object]; kernel_rfl
theorem objInit_zip (o : Value) : ∀ xs : List Value, xs ≠ [] → xs.length ≤ 8 → argsOk "object.__init__" ⟨o :: xs, []⟩
  | [], h, _ => absurd rfl h
  | [a], _, _ => objInit_zip1 o a
  | [a, b], _, _ => objInit_zip2 o a b
  | [a, b, c], _, _ => objInit_zip3 o a b c
  | [a, b, c, d], _, _ => objInit_zip4 o a b c d
  | [a, b, c, d, e], _, _ => objInit_zip5 o a b c d e
  | [a, b, c, d, e, f], _, _ => objInit_zip6 o a b c d e f
  | [a, b, c, d, e, f, g], _, _ => objInit_zip7 o a b c d e f g
  | [a, b, c, d, e, f, g, h], _, _ => objInit_zip8 o a b c d e f g h
  | _ :: _ :: _ :: _ :: _ :: _ :: _ :: _ :: _ :: r, _, h => absurd h (by simp only [List.length_cons]; omega)

theorem laid_append (h : Heap) : ∀ (l1 l2 : List (Addr × Bool)), laid h (l1 ++ l2) = laid (laid h l1) l2
  | [], _ => rfl
  | l :: l1, l2 => laid_append _ l1 l2
theorem laid_size : ∀ (ls : List (Addr × Bool)) (h : Heap), (laid h ls).objs.size = h.objs.size + ls.length
  | [], _ => rfl
  | l :: ls, h => by rw [laid, laid_size ls, Heap.size_push, List.length_cons]; omega
theorem laid_keep : ∀ (ls : List (Addr × Bool)) (h : Heap) (c : Addr) (o : Obj), h.get? c = some o → (laid h ls).get? c = some o
  | [], _, _, _, e => e
  | _ :: ls, _, c, o, e => laid_keep ls _ c o (Heap.get?_push_of_some _ e)
theorem pairs_append (n : Nat) : ∀ (l1 l2 : List (Addr × Bool)), pairs n (l1 ++ l2) = pairs n l1 ++ pairs (n + l1.length) l2
  | [], _ => by simp [pairs]
  | l :: l1, l2 => by
    simp only [List.cons_append, pairs, pairs_append (n + 1) l1 l2, List.length_cons]
    rw [show n + 1 + l1.length = n + (l1.length + 1) by omega]
theorem pairs_snd : ∀ (ls : List (Addr × Bool)) (n : Nat), (pairs n ls).map (·.2) = ls
  | [], _ => rfl
  | l :: ls, n => by simp [pairs, pairs_snd ls]
theorem pairs_len (ls : List (Addr × Bool)) (n : Nat) : (pairs n ls).length = ls.length := by rw [← List.length_map (f := (·.2)), pairs_snd]
theorem pairs_ge : ∀ (ls : List (Addr × Bool)) (n : Nat) (p : Addr × Addr × Bool), p ∈ pairs n ls → n ≤ p.1 ∧ p.1 < n + ls.length ∧ p.2 ∈ ls
  | [], _, _, h => by simp [pairs] at h
  | l :: ls, n, p, h => by
    simp only [pairs, List.mem_cons] at h
    rcases h with rfl | h
    · simp
    · obtain ⟨a, b, c⟩ := pairs_ge ls _ p h
      simp only [List.length_cons, List.mem_cons]
      exact ⟨Nat.le_trans (Nat.le_succ n) a, Nat.lt_of_lt_of_eq (m := n + 1 + ls.length) b (by omega), .inr c⟩
theorem pairs_nd : ∀ (ls : List (Addr × Bool)) (n : Nat), ((pairs n ls).map (·.1)).Nodup
  | [], _ => by simp [pairs]
  | l :: ls, n => by
    simp only [pairs, List.map_cons, List.nodup_cons, List.mem_map]
    refine ⟨?_, pairs_nd ls _⟩
    rintro ⟨p, hp, e⟩
    have q := (pairs_ge ls _ p hp).1
    rw [e] at q
    exact absurd q (Nat.not_succ_le_self n)
theorem laid_iter : ∀ (ls : List (Addr × Bool)) (h : Heap) (p : Addr × Addr × Bool), p ∈ pairs h.objs.size ls → It1 (laid h ls) p.1 p.2 0
  | [], _, _, h => by simp [pairs] at h
  | l :: ls, h, p, hp => by
    simp only [pairs, List.mem_cons] at hp
    rcases hp with rfl | hp
    · exact ⟨_, laid_keep ls _ _ _ (Heap.get?_push_size _ rfl), rfl, rfl⟩
    · refine laid_iter ls _ p ?_
      rw [Heap.size_push]; exact hp

theorem wpAny_iterAll {ls : List (Addr × Bool)} {Q : List Value → Shared → Prop} (hl : ∀ l ∈ ls, ∃ items, Sq1 s.heap l items)
    (hQ : Q (refs1 (pairs s.heap.objs.size ls)) { s with heap := laid s.heap ls }) :
    wpAny (model prog w) A (Builtin.SmallTypes.iterAll ((refsL ls))) Q E s := by
  unfold Builtin.SmallTypes.iterAll
  refine wpAny_bind ?_
  refine wpAny_forIn_list _ (fun rest b s' => ∃ l1 l2, ls = l1 ++ l2 ∧ rest = (refsL l2) ∧ b = (refs1 (pairs s.heap.objs.size l1)).toArray ∧ s' = { s with heap := laid s.heap l1 }) _ ?_ ?_ _ _ ⟨[], ls, rfl, rfl, rfl, rfl⟩
  · rintro u rest b s' ⟨l1, l2, e, er, rfl, rfl⟩
    cases l2 with
    | nil => simp at er
    | cons l l2 =>
      simp only [List.map_cons, List.cons.injEq] at er
      obtain ⟨rfl, rfl⟩ := er
      obtain ⟨items, o, ho, r⟩ := hl l (by rw [e]; simp)
      refine wpAny_bind (wpAny_holding (pyIter_sq (l := l) (s := { s with heap := laid s.heap l1 }) (items := items) ⟨o, laid_keep l1 _ _ _ ho, r⟩ (wpAny_pure ?_)))
      refine ⟨l1 ++ [l], l2, by rw [e]; simp, rfl, ?_, ?_⟩
      · rw [pairs_append, laid_size]; simp [pairs, refs1]
      · rw [laid_append]; rfl
  · rintro b s' ⟨l1, l2, e, er, rfl, rfl⟩
    have e2 : l2 = [] := by simpa using er.symm
    subst e2
    simp only [List.append_nil] at e
    subst e
    exact wpAny_pure hQ

abbrev newH1 (h : Heap) (ls : List (Addr × Bool)) : Heap := (laid h ls).push { cls := .type "tuple", data := .seq (refs1 (pairs h.objs.size ls)).toArray }
abbrev newH2 (h : Heap) (ls : List (Addr × Bool)) : Heap := (newH1 h ls).push { cls := .type "tuple", data := .seq ((refs1 (pairs h.objs.size ls)).map fun _ => Value.none).toArray }
abbrev newH3 (h : Heap) (ls : List (Addr × Bool)) : Heap := (newH2 h ls).push { cls := .type "zip", data := .fields #[.none, .bool false, .bool false, .ref (laid h ls).objs.size, .ref (newH1 h ls).objs.size] }

theorem meets_zipS_new (ls : List (Addr × Bool)) (hn : ls.length ≤ sizeLine) :
    Meets (Builtin.«zip.__new__» ⟨.type "zip" :: (refsL ls), []⟩) (fun _ R s => (∀ l ∈ ls, ∃ items, Sq1 s.heap l items) ∧
      R (.ok (.ret (.ref (newH2 s.heap ls).objs.size))) { s with heap := newH3 s.heap ls }) :=
  .of_wp fun prog w A R s h => by
    obtain ⟨hp, g, d, tk, os⟩ := s; obtain ⟨hl, h⟩ := h
    have hsub := sub_zip
    have hn' : (refs1 (pairs hp.objs.size ls)).length ≤ sizeLine := by rw [List.length_map, pairs_len]; exact hn
    have hI : ∀ {A' : Around} {Q E}, Q (refs1 (pairs hp.objs.size ls)) ⟨laid hp ls, g, d, tk, os⟩ → wpAny (model prog w) A' (Builtin.SmallTypes.iterAll ((refsL ls))) Q E ⟨hp, g, d, tk, os⟩ := fun q => wpAny_iterAll hl q
    wp_walk using hI
    have z1 := @wpAny_newTuple (model prog w) A.in1 (fun e s' => R (Except.error e) s') ⟨laid hp ls, g, d, tk, os⟩ (refs1 (pairs hp.objs.size ls))
    refine z1 ?_ hn'
    refine wpAny_bind (wpAny_newTuple ?_ (by rw [List.length_map]; exact hn'))
    wp_walk using hI
    exact ⟨_, rfl, h⟩

theorem call_zipS {ls : List (Addr × Bool)} {Q : Value → Shared → Prop} (hne : ls ≠ []) (h8 : ls.length ≤ 8) (hl : ∀ l ∈ ls, ∃ items, Sq1 s.heap l items)
    (h : ∀ h', ZOb h' (s.heap.objs.size + ls.length + 2) (s.heap.objs.size + ls.length) (s.heap.objs.size + ls.length + 1) .none (.bool false) → ZTup h' (s.heap.objs.size + ls.length) (refs1 (pairs s.heap.objs.size ls)) →
      (∃ ts, ZTup h' (s.heap.objs.size + ls.length + 1) ts ∧ ts.length = ls.length) → (∀ p ∈ pairs s.heap.objs.size ls, It1 h' p.1 p.2 0) →
      (∀ c o, s.heap.get? c = some o → h'.get? c = some o) → Q (.ref (s.heap.objs.size + ls.length + 2)) { s with heap := h' }) :
    wpAny (model prog w) A (call (.type "zip") ((refsL ls))) Q E s := by
  have hne' : (refsL ls) ≠ [] := by cases ls with | nil => exact absurd rfl hne | cons _ _ => simp
  have h8' : ((refsL ls)).length ≤ 8 := by rw [List.length_map]; exact h8
  refine callType_new F.called_zip (by decide) (typeCall_zip _) (newCall_zip _ h8') (fun obj => objInit_zip obj _ hne' h8') F.entry_zip_new
    (meets_zipS_new ls (Nat.le_trans h8 (by decide))) ⟨hl, ?_⟩
  have z0 : (laid s.heap ls).objs.size = s.heap.objs.size + ls.length := laid_size ..
  have z1 : (newH1 s.heap ls).objs.size = s.heap.objs.size + ls.length + 1 := by rw [Heap.size_push, z0]
  have z2 : (newH2 s.heap ls).objs.size = s.heap.objs.size + ls.length + 2 := by rw [Heap.size_push, z1]
  have g3 : (newH3 s.heap ls).get? (newH2 s.heap ls).objs.size = some _ := Heap.get?_push_size _ rfl
  have g2 : (newH3 s.heap ls).get? (newH1 s.heap ls).objs.size = some _ := Heap.get?_push_of_some _ (Heap.get?_push_size _ rfl)
  have g1 : (newH3 s.heap ls).get? (laid s.heap ls).objs.size = some _ := Heap.get?_push_of_some _ (Heap.get?_push_of_some _ (Heap.get?_push_size _ rfl))
  have up : ∀ c o, (laid s.heap ls).get? c = some o → (newH3 s.heap ls).get? c = some o := fun c o e => Heap.get?_push_of_some _ (Heap.get?_push_of_some _ (Heap.get?_push_of_some _ e))
  show _ ∧ _
  rw [z0, z1, z2] at g3
  rw [z1] at g2
  rw [z0] at g1
  rw [z2]
  refine ⟨⟨_, g3, rfl⟩, h _ g3 g1 ⟨_, g2, ?_⟩ (fun p hp => (laid_iter ls _ p hp).at fun o e => up _ o e) fun c o e => up c o (laid_keep ls _ c o e)⟩
  simp [pairs_len]
end
end ZS
end PySem
namespace L2
open PySem PySem.Spec PyProof.Rows PySem.ZS

/-- a list or a tuple -/
def SqA (K : PySem.W.Frag) (H : Hp) (l : Addr × Bool) (xs : List V) : Prop := match l with
  | (a, true) => SqT K H a xs
  | (a, false) => SqL K H a xs
theorem Inv.sqA {X : Cx} {pins : List (Addr × Obj)} {σ : St} {H : Hp} {s : Shared} {l : Addr × Bool} {xs : List V} (I : Inv X pins σ H s) (h : SqA X.K H l xs) : ∃ its : List Value, Vals xs its ∧ Sq1 s.heap l its.toArray := by
  obtain ⟨a, k⟩ := l
  cases k with
  | false => obtain ⟨its, r, p, _⟩ := I.list h; exact ⟨its, r, p.isList⟩
  | true => obtain ⟨its, r, ⟨o, ho, hc, n, hd⟩, _⟩ := I.tuple h; exact ⟨its, r, ⟨o, ho, hc, n, hd⟩⟩
theorem Inv.sqA_inj {X : Cx} {pins : List (Addr × Obj)} {σ : St} {H : Hp} {s : Shared} {l : Addr × Bool} {xs ys : List V} (I : Inv X pins σ H s) (h : SqA X.K H l xs) (h' : SqA X.K H l ys) : xs = ys := by
  obtain ⟨a, k⟩ := l
  cases k with
  | false => exact I.list_inj h h'
  | true => exact I.tuple_inj h h'
theorem Sq1.lt {h : Heap} {l : Addr × Bool} {xs : Array Value} (x : Sq1 h l xs) : l.1 < h.objs.size := by obtain ⟨o, ho, _⟩ := x; exact Heap.lt_size ho
/-- the step ahead of the store -/
theorem letGo_zipS {A : Around} {E : Value → Shared → Prop} {s : Shared} {prog : Program} {w : World} {z TI TO T : Addr} {f0 f1 : Value} {Q : Unit → Shared → Prop} (tg : Expr) (hz : ZOb s.heap z TI TO f0 f1) (hf : F0 f0)
    (hQ : ∀ h' f0', ZOb h' z TI TO f0' f1 → F0 f0' → Heap.SameBut z s.heap h' → Q () { s with heap := h' }) : wpAny (model prog w) A (letOwnedTupleGo tg (.ref z) (.ref T)) Q E s := by
  have h0 : Q () s := hQ s.heap f0 hz hf ⟨rfl, fun _ _ => rfl⟩
  unfold letOwnedTupleGo
  cases tg <;> first
    | exact wpAny_pure h0
    | (refine wpAny_bind (wpAny_load hz ?_)
       show wpAny _ _ (if (["enumerate", "zip", "dict_itemiterator", "dict_reverseitemiterator", "odict_iterator", "itertools.zip_longest", "itertools.pairwise"].contains "zip" &&
          (#[f0, f1, .bool false, .ref TI, .ref TO] : Array Value)[0]? == some (rawInt T)) = true then _ else _) Q E s
       split
       · refine wpAny_bind (wpAny_rule ?_)
         show wpAny _ _ (setField (.ref z) 0 .none) Q E s
         exact wpAny_setField_rec hz (by simp) fun h' hz' hs' => hQ h' .none hz' (.inl rfl) hs'
       · exact wpAny_pure h0)

/-- what a turn of zip(*lists) hands out: the i-th items -/
def Cols (K : PySem.W.Frag) (H : Hp) (i : Nat) : List (Addr × Bool) → List V → Prop
  | [], [] => True
  | l :: ls, y :: ys => (∀ xs, SqA K H l xs → xs[i]? = some y) ∧ Cols K H i ls ys
  | _, _ => False
def Itn (K : PySem.W.Frag) (ls : List (Addr × Bool)) : It :=
  ⟨fun i H => ∀ l ∈ ls, ∃ (xs : List V) (x : V), SqA K H l xs ∧ xs[i]? = some x, fun i H v H' => ∃ T ys, v = .ref T ∧ H T = none ∧ H' = upd H T (.tup ys) ∧ Cols K H i ls ys,
    fun i H => ∃ l ls' xs, ls = l :: ls' ∧ SqA K H l xs ∧ xs.length ≤ i⟩
theorem cols_of {K : PySem.W.Frag} {H : Hp} {i : Nat} {val : Addr × Bool → Value} : ∀ (ls : List (Addr × Bool)), (∀ l ∈ ls, ∃ y, (∀ xs, SqA K H l xs → xs[i]? = some y) ∧ RelV y (val l)) → ∃ ys, Cols K H i ls ys ∧ Vals ys (ls.map val) ∧ ys.length = ls.length
  | [], _ => ⟨[], trivial, .nil, rfl⟩
  | l :: ls, h => by
    obtain ⟨y, hy, r⟩ := h l (by simp)
    obtain ⟨ys, c, rv, hl⟩ := cols_of ls fun l' hl => h l' (by simp [hl])
    exact ⟨y :: ys, ⟨hy, c⟩, .cons r rv, by simp [hl]⟩
def itemAt (h : Heap) (i : Nat) (l : Addr × Bool) : Value :=
  match h.get? l.1 with
  | some o => match o.data with
    | .seq a _ => a[i]?.getD .none
    | _ => .none
  | none => .none
theorem itemAt_of {h : Heap} {i : Nat} {l : Addr × Bool} {items : Array Value} {u : Value} (hl : Sq1 h l items) (hu : items[i]? = some u) : itemAt h i l = u := by
  obtain ⟨o, ho, _, n, hd⟩ := hl
  simp [itemAt, ho, hd, hu]

theorem turn_zipS {P : Program} {w : World} {K : PySem.W.Frag} {tg : Expr} {z TI TO : Addr} {ps : List (Addr × Addr × Bool)} (D : ZApart z TI TO ps) (hne : ps ≠ []) (hn : ps.length ≤ sizeLine) :
    Turn P w K tg (Itn K (ps.map (·.2))) (z :: TI :: TO :: ps.map (·.1)) z
      (fun i h => (∃ f0 f1, ZOb h z TI TO f0 f1 ∧ F0 f0) ∧ ZTup h TI (refs1 ps) ∧ (∃ ts, ZTup h TO ts ∧ ts.length = ps.length) ∧ ∀ p ∈ ps, It1 h p.1 p.2 i) where
  mem := by simp
  obj := fun i h st c hc => by
    obtain ⟨⟨f0, f1, hz, _⟩, hTI, ⟨ts, hTO, _⟩, hit⟩ := st
    rcases List.mem_cons.1 hc with q | hc
    · rw [q]; exact ⟨_, hz, fun v q => nomatch q⟩
    rcases List.mem_cons.1 hc with q | hc
    · rw [q]; exact ⟨_, hTI, fun v q => nomatch q⟩
    rcases List.mem_cons.1 hc with q | hc
    · rw [q]; exact ⟨_, hTO, fun v q => nomatch q⟩
    obtain ⟨p, hp, rfl⟩ := List.mem_map.1 hc
    obtain ⟨o, e, _, d⟩ := hit p hp
    exact ⟨o, e, fun v q => by rw [d] at q; cases q⟩
  keep := fun i h h' st k => by
    obtain ⟨⟨f0, f1, hz, hf⟩, hTI, ⟨ts, hTO, hts⟩, hit⟩ := st
    exact ⟨⟨f0, f1, k z (by simp) _ hz, hf⟩, k TI (by simp) _ hTI, ⟨ts, k TO (by simp) _ hTO, hts⟩, fun p hp => (hit p hp).at fun o e => k p.1 (by simp only [List.mem_cons, List.mem_map]; exact .inr (.inr (.inr ⟨p, hp, rfl⟩))) o e⟩
  item := by
    intro X hP hw hK hc i pins s σ H E I hf st hg
    subst hP hw hK
    obtain ⟨⟨f0, f1, hz, hf0⟩, hTI, ⟨ts, hTO, hts⟩, hit⟩ := st
    have hv0 : ∀ p ∈ ps, ∃ y items, (∀ xs, SqA X.K H p.2 xs → xs[i]? = some y) ∧ RelV y (itemAt s.heap i p.2) ∧ Sq1 s.heap p.2 items ∧ items[i]? = some (itemAt s.heap i p.2) := fun p hp => by
      obtain ⟨xs, y, hq, hy⟩ := hg p.2 (List.mem_map_of_mem hp)
      obtain ⟨its, rv, pl⟩ := I.sqA hq
      obtain ⟨u, hu, ru⟩ := rv.get hy
      have hu' : its.toArray[i]? = some u := by simpa using hu
      have e := itemAt_of pl hu'
      exact ⟨y, its.toArray, fun xs' h' => by rw [I.sqA_inj h' hq]; exact hy, by rw [e]; exact ru, pl, by rw [e]; exact hu'⟩
    obtain ⟨ys, hcols, hvals, hlen⟩ := cols_of (K := X.K) (H := H) (i := i) (val := itemAt s.heap i) (ps.map (·.2)) fun l hl => by
      obtain ⟨p, hp, rfl⟩ := List.mem_map.1 hl
      obtain ⟨y, _, a, b, _⟩ := hv0 p hp
      exact ⟨y, a, b⟩
    refine pyNext_zipS_item D hz hf0 hTI hTO hts hn hne hit (val := itemAt s.heap i) (fun p hp => by obtain ⟨_, items, _, _, a, b⟩ := hv0 p hp; exact ⟨items, a, b⟩) fun h' f0' f1' z' hf0' ⟨ts', TO', hts'⟩ hit' hT hk => ?_
    refine ⟨_, rfl, letGo_zipS (s := { s with heap := h' }) tg z' hf0' fun h2 f0'' z'' hf0'' sb => ?_⟩
    have hTz : s.heap.objs.size ≠ z := Nat.ne_of_gt (Heap.lt_size hz)
    replace hk : Keep z TO ps s.heap h2 := fun c o c1 c2 c3 e => (sb.2 c c1).trans (hk c o c1 c2 c3 e)
    replace hT : ZTup h2 s.heap.objs.size (ps.map fun p => itemAt s.heap i p.2) := (sb.2 _ hTz).trans hT
    replace TO' : ZTup h2 TO ts' := (sb.2 _ D.TOz).trans TO'
    replace hit' : ∀ p ∈ ps, It1 h2 p.1 p.2 (i + 1) := fun p hp => (hit' p hp).at fun o e => (sb.2 _ (D.it p hp).1).trans e
    have hT' : h2.get? s.heap.objs.size = some { cls := .type "tuple", data := .seq ((ps.map (·.2)).map (itemAt s.heap i)).toArray } := by rw [List.map_map]; exact hT
    have new : ObjOk X.prog X.w (upd H s.heap.objs.size (.tup ys)) h2 s.heap.objs.size (.tup ys) :=
      ⟨by show ys.length ≤ sizeLine; rw [hlen, List.length_map]; exact hn, _, hvals, ⟨_, hT', rfl, _, rfl⟩⟩
    have I1 : Inv X pins σ (upd H s.heap.objs.size (.tup ys)) { s with heap := h2 } :=
      I.turnedNew (t' := s.toks) (ch := z :: TI :: TO :: ps.map (·.1)) (fun c o hb q => hk c o (fun q' => hb (by simp [q'])) (fun q' => hb (by simp [q'])) (fun p hp q' => hb (by simp only [List.mem_cons, List.mem_map]; exact .inr (.inr (.inr ⟨p, hp, q'.symm⟩)))) q) hf (Nat.le_refl _) new
    refine ⟨.ref s.heap.objs.size, _, I1, rfl, ⟨_, ys, rfl, I.hok.fresh (Nat.le_refl _), rfl, hcols⟩, ⟨⟨f0'', f1', z'', hf0''⟩, hk _ _ D.TIz D.TITO (fun p hp => Ne.symm (D.it p hp).2.1) hTI, ⟨ts', TO', hts'⟩, hit'⟩, fun c hcm => ?_⟩
    have hlt : c < s.heap.objs.size := by
      rcases List.mem_cons.1 hcm with q | hcm
      · rw [q]; exact Heap.lt_size hz
      rcases List.mem_cons.1 hcm with q | hcm
      · rw [q]; exact Heap.lt_size hTI
      rcases List.mem_cons.1 hcm with q | hcm
      · rw [q]; exact Heap.lt_size hTO
      obtain ⟨p, hp, rfl⟩ := List.mem_map.1 hcm
      obtain ⟨_, e, _⟩ := hit p hp
      exact Heap.lt_size e
    rw [upd_ne (Nat.ne_of_lt hlt)]
    exact (hf c hcm).1
  done := by
    intro X hP hw hK hc i pins s σ H E I hf st hg
    subst hP hw hK
    obtain ⟨⟨f0, f1, hz, hf0⟩, hTI, ⟨ts, hTO, hts⟩, hit⟩ := st
    obtain ⟨l, ls', xs, el, hq, hend⟩ := hg
    cases ps with
    | nil => exact absurd rfl hne
    | cons p ps =>
      simp only [List.map_cons, List.cons.injEq] at el
      obtain ⟨rfl, _⟩ := el
      obtain ⟨its, rv, pl⟩ := I.sqA hq
      have hl := rv.length
      exact pyNext_zipS_end (I.ok.hd hc) D hz hf0 hTI hTO (hit p (by simp)) pl (by simp; omega) fun h' hk => ⟨rfl, I.turnedL (t' := s.toks) (ch := z :: TI :: TO :: (p :: ps).map (·.1)) (fun c o hb q =>
        hk c o (fun q' => hb (by simp [q'])) (fun q' => hb (by simp [q'])) (fun p' hp q' => hb (by simp only [List.mem_cons (a := c), List.mem_map]; exact .inr (.inr (.inr ⟨p', hp, q'.symm⟩)))) q) hf⟩
  self := fun A i s Q E st h => let ⟨⟨_, _, hz, _⟩, _⟩ := st; pyIter_zipS hz h

theorem callWith_typeS {M : Model} {A : Around} {E : Value → Shared → Prop} {s : Shared} {pos : Pos} {T : String} {x : Sem Value} {Q : Value → Shared → Prop}
    (h : wpAny M A x (fun v s₁ => PySem.W.StarOf M A E v (fun vs s₂ => wpAny M A (call (.type T) vs) Q E s₂) s₁) E s) :
    wpAny M A (callWith pos (.type T) [] (backTo pos [(true, x)]) []) Q E s := by
  unfold callWith
  refine wpAny_bind (wpAny_holding (wpAny_mono (PySem.W.ks_lone (Q := fun a s₂ => wpAny M A (call (.type T) a.pos a.kw) Q E s₂) (wpAny_mono h (fun v s₁ h₁ => h₁) fun _ _ x => x)) (fun a s₁ h₁ => wpAny_bind (wpAny_standAt ?_)) fun _ _ x => x))
  have z := wpAny_bind (m := operate ((.type T :: a.pos.reverse) ++ a.kw.map (·.2)) (call (.type T) a.pos a.kw)) (f := fun r => do holding [r] point; pure r) (wpAny_operate' (wpAny_mono h₁ (fun r s₂ hr => wpAny_bind (wpAny_holding (wpAny_point (wpAny_pure hr)))) fun _ _ x => x))
  exact wpAny_bind (wpAny_pure z)
/-- an iterator of zip over these, laid -/
theorem pie_zipS {X : Cx} {pins : List (Addr × Obj)} {σ : St} {H1 : Hp} {R : It → Hp → Prop} {tg : Expr} {s2 : Shared} {ls : List (Addr × Bool)} (I2 : Inv X pins σ H1 s2) (hne : ls ≠ []) (h8 : ls.length ≤ 8) (hls : ∀ l ∈ ls, ∃ xs, SqA X.K H1 l xs) (q : R (Itn X.K ls) H1) :
    wpAny (model X.prog X.w) X.A (call (.type "zip") (refsL ls)) (fun v s1 => wpAny (model X.prog X.w) X.A (pyIter v) (PIE X pins σ tg R) X.xe s1) X.xe s2 := by
  refine call_zipS hne h8 (fun l hl => by obtain ⟨xs, hx⟩ := hls l hl; obtain ⟨its, _, pl⟩ := I2.sqA hx; exact ⟨_, pl⟩) fun h' hz hTI hTO hit hk => pyIter_zipS hz ?_
  have I3 : Inv X pins σ H1 { s2 with heap := h' } := I2.kept (t' := s2.toks) hk
  have lt : ∀ l ∈ ls, l.1 < s2.heap.objs.size := fun l hl => by obtain ⟨xs, hx⟩ := hls l hl; obtain ⟨its, _, pl⟩ := I2.sqA hx; exact Sq1.lt pl
  have D : ZApart (s2.heap.objs.size + ls.length + 2) (s2.heap.objs.size + ls.length) (s2.heap.objs.size + ls.length + 1) (pairs s2.heap.objs.size ls) := by
    refine ⟨fun e => absurd (show (s2.heap.objs.size + ls.length : Nat) = s2.heap.objs.size + ls.length + 2 from e) (by omega), fun e => absurd (show (s2.heap.objs.size + ls.length + 1 : Nat) = s2.heap.objs.size + ls.length + 2 from e) (by omega), fun e => absurd (show (s2.heap.objs.size + ls.length : Nat) = s2.heap.objs.size + ls.length + 1 from e) (by omega), fun p hp => ?_, fun p hp => ?_, pairs_nd ..⟩
    · have a1 : p.1 < s2.heap.objs.size + ls.length := (pairs_ge ls _ p hp).2.1
      exact ⟨Nat.ne_of_lt (Nat.lt_of_lt_of_le a1 (by omega)), Nat.ne_of_lt a1, Nat.ne_of_lt (Nat.lt_of_lt_of_le a1 (by omega))⟩
    · have a1 : p.2.1 < s2.heap.objs.size := lt p.2 (pairs_ge ls _ p hp).2.2
      exact ⟨Nat.ne_of_lt (Nat.lt_of_lt_of_le a1 (by omega)), Nat.ne_of_lt (Nat.lt_of_lt_of_le a1 (by omega)), fun q hq => Nat.ne_of_lt (Nat.lt_of_lt_of_le a1 (pairs_ge ls _ q hq).1)⟩
  obtain ⟨ts, hTO, hts⟩ := hTO
  have hpne : pairs s2.heap.objs.size ls ≠ [] := fun e => hne (by rw [← pairs_snd ls s2.heap.objs.size, e]; rfl)
  have T := turn_zipS (P := X.prog) (w := X.w) (K := X.K) (tg := tg) D hpne (by rw [ZS.pairs_len]; exact Nat.le_trans h8 (by decide))
  rw [pairs_snd] at T
  refine ⟨_, _, _, _, H1, rfl, I3, T, ⟨⟨_, _, hz, .inl rfl⟩, hTI, ⟨ts, hTO, by rw [ZS.pairs_len]; exact hts⟩, hit⟩, fun c hcm => ?_, q⟩
  have hle : s2.heap.objs.size ≤ c := by
    rcases List.mem_cons.1 hcm with q | hcm
    · rw [q]; omega
    rcases List.mem_cons.1 hcm with q | hcm
    · rw [q]; omega
    rcases List.mem_cons.1 hcm with q | hcm
    · rw [q]; omega
    obtain ⟨p, hp, rfl⟩ := List.mem_map.1 hcm
    exact (pairs_ge ls _ p hp).1
  exact I2.fpOk hle (I2.hok.fresh hle)
/-- zip(*e), e a list of at most 8 lists -/
def iZipS (K : PySem.W.Frag) (te : TE) : TI := fun σ H R => te σ H fun v H1 => ∃ a ls, v = .ref a ∧ SqL K H1 a (ls.map V.ref) ∧ ls ≠ [] ∧ ls.length ≤ 8 ∧ (∀ l ∈ ls, ∃ xs, SqL K H1 l xs) ∧ R (Itn K (ls.map fun l => (l, false))) H1
theorem zs_vals_refs : ∀ {ls : List Addr} {us : List Value}, Vals (ls.map V.ref) us → us = refsL (ls.map fun l => (l, false))
  | [], _, .nil => rfl
  | l :: ls, _, .cons r rr => by
    cases r
    rw [zs_vals_refs rr]; rfl
theorem pi_zipS {X : Cx} {tg e : Expr} {te : TE} {p p2 pos : Pos} (hg : Gl X "zip") (hm : X.mg "zip" = none) (he : PE X e te)
    (hs : starEach [.Starred e p2] X.env = [(true, eval e X.env)] := by rfl) :
    PI X tg (.Call (.Name "zip" p) [.Starred e p2] [] pos) (iZipS X.K te) := by
  refine ⟨fun pins s σ H R I h => ?_⟩
  refine Call_ (ld_blt I hg hm PyProof.Rows.boot_zip ?_)
  rw [hs]
  refine callWith_typeS (thn (he.run pins s σ H _ I h) fun v s1 ⟨y, H1, I1, ry, a, ls, ey, hq, hne, h8, hls, q⟩ => ?_)
  subst ey
  obtain rfl : v = Value.ref a := ry
  refine StX.star_lst I1 hq fun us s2 I2 rv => ?_
  have e := zs_vals_refs rv
  subst e
  refine pie_zipS I2 (by simpa using hne) (by simpa using h8) (fun l hl => ?_) q
  obtain ⟨l', hl', rfl⟩ := List.mem_map.1 hl
  exact hls l' hl'
/-- zip(e, e2), e a list, e2 a tuple -/
def iZipM (K : PySem.W.Frag) (ta : TA) : TI := fun σ H R => ta σ H fun vs H1 => ∃ a b xs ys, vs = [.ref a, .ref b] ∧ SqL K H1 a xs ∧ SqT K H1 b ys ∧ R (Itn K [(a, false), (b, true)]) H1
theorem pi_zipM {X : Cx} {tg e e2 : Expr} {ta : TA} {p pos : Pos} (hg : Gl X "zip") (hm : X.mg "zip" = none) (ha : PA X [e, e2] ta)
    (hs : starEach [e, e2] X.env = (false, eval e X.env) :: starEach [e2] X.env := by rfl) (hpl : (backTo pos (starEach [e2] X.env)).any (·.1) = false := by rfl) :
    PI X tg (.Call (.Name "zip" p) [e, e2] [] pos) (iZipM X.K ta) := by
  refine ⟨fun pins s σ H R I h => ?_⟩
  refine Call_ (ld_blt I hg hm PyProof.Rows.boot_zip (PyProof.Rows.callWith_type1 (thn (ha.run pos pins s σ H _ I h) fun us s1 ⟨vs, H1, I1, r1, q1⟩ => ?_) hs hpl))
  obtain ⟨a, b, xs, ys, ex, hqx, hqy, q⟩ := q1
  subst ex
  cases r1 with
  | cons r rr =>
    cases rr with
    | cons r' rr =>
      cases rr
      cases r
      cases r'
      refine pie_zipS (ls := [(a, false), (b, true)]) I1 (by simp) (by simp) (fun l hl => ?_) q
      rcases List.mem_cons.1 hl with rfl | hl
      · exact ⟨xs, hqx⟩
      · rw [List.mem_singleton.1 hl]
        exact ⟨ys, hqy⟩
end L2
namespace PyProof.Rows
open PySem
theorem callWith_typeKw {M : Model} {A : Around} {E : Value → Shared → Prop} {s : Shared} {env : Env} {pos : Pos} {T : String} {e : Expr} {rest : List Expr} {kws : List Keyword} {Q : Value → Shared → Prop}
    (h : wpAny M A (spliced (backTo pos (starEach (e :: rest) env))) (fun vs s₁ => wpAny M A (evalAll ((backToKw pos (keywordEach kws env)).map (·.2)))
      (fun kvs s₂ => wpAny M A (call (.type T) vs (((backToKw pos (keywordEach kws env)).filterMap (·.1)).zip kvs)) Q E s₂) E s₁) E s)
    (he : backTo pos (starEach (e :: rest) env) = (false, eval e env) :: backTo pos (starEach rest env) := by rfl)
    (hplain : (backTo pos (starEach (e :: rest) env)).any (·.1) = false := by rfl)
    (hall : (backToKw pos (keywordEach kws env)).all (·.1.isSome) = true := by rfl)
    (hkw : (backToKw pos (keywordEach kws env)).any (·.1.isNone) = false := by rfl) :
    wpAny M A (callWith pos (.type T) [] (backTo pos (starEach (e :: rest) env)) (backToKw pos (keywordEach kws env))) Q E s := by
  unfold callWith
  rw [he] at h hplain ⊢
  refine wpAny_bind (wpAny_holding (wpAny_mono (evalArgs_kwB (Q := fun a s₁ => wpAny M A (call (.type T) ([] ++ a.pos) a.kw) Q E s₁) hall h) (fun a s₁ h₁ => wpAny_bind (wpAny_standAt ?_)) fun _ _ x => x))
  simp only [hplain, hkw, Bool.or_false]
  refine wpAny_bind (wpAny_pure ?_)
  exact wpAny_bind (wpAny_mono h₁ (fun r s₂ hr => wpAny_bind (wpAny_holding (wpAny_point (wpAny_pure hr)))) fun _ _ x => x)
end PyProof.Rows
namespace L2
open PySem PySem.Spec PyProof.Rows
theorem item_ltV {l : List V} {i : Nat} {x : V} (h : l[i]? = some x) : i < l.length := (List.getElem?_eq_some_iff.mp h).1
theorem enumS_end {prog : Program} {w : World} {A : Around} {E : Value → Shared → Prop} {s : Shared} {e it l : Addr} {i : Nat} {c : Int} {items : Array Value} {old : Value} {Q : Option Value → Shared → Prop}
    (hh : A.handled = none) (he : IsEnum s.heap e it c old) (hit : s.heap.IsListIter it l i) (hl : s.heap.IsList l items) (hx : items.size = i)
    (hQ : ∀ h', Heap.ExtBut it s.heap h' → Q none { s with heap := h' }) : wpAny (model prog w) A (pyNext (.ref e)) Q E s := by
  have hail : l ≠ it := fun z => by
    obtain ⟨o, q, c, d⟩ := hit
    obtain ⟨o2, q2, c2, n2, d2⟩ := hl
    rw [← z, q2] at q
    have := Option.some.inj q
    rw [← this, d2] at d
    cases d
  subst hx
  exact wpAny_pyNext_enum_endD (Draws.list (prog := prog) (w := w) (A := A.in1) hh it l hail items) he ⟨hit, hl⟩ hQ
/-- the list at a as it stands at each turn, each item in a new pair, counted from k -/
def IteS (K : PySem.W.Frag) (a : Addr) (k : Int) : It :=
  ⟨fun i H => ∃ (xs : List V) (x : V), SqL K H a xs ∧ xs[i]? = some x, fun i H v H' => ∃ T x, v = .ref T ∧ H T = none ∧ H' = upd H T (.tup [.int (k + (i : Nat)), x]) ∧ ∀ xs, SqL K H a xs → xs[i]? = some x, fun i H => ∃ xs : List V, SqL K H a xs ∧ xs.length = i⟩
theorem turn_enumS {P : Program} {w : World} {K : PySem.W.Frag} {elts : List Expr} {kk : Nat} {tpos : Pos} {k : Int} (a e it : Addr) :
    Turn P w K (.Tuple elts kk tpos) (IteS K a k) [e, it] e (fun i h => (∃ old, IsEnum h e it (k + ((i : Nat) : Int)) old) ∧ h.IsListIter it a i ∧ e ≠ it) where
  mem := by simp
  obj := fun i h st b hb => by
    obtain ⟨⟨old, he⟩, ⟨o, ho, hc, hd⟩, _⟩ := st
    have e' : b = e ∨ b = it := by simpa using hb
    rcases e' with z | z
    · rw [z]; exact ⟨_, he, fun v q => nomatch q⟩
    · rw [z]; exact ⟨o, ho, fun v q => by rw [hd] at q; cases q⟩
  keep := fun i h h' st k => let ⟨⟨old, he⟩, hi, hne⟩ := st; ⟨⟨old, k e (by simp) _ he⟩, hi.at fun o q => k it (by simp) o q, hne⟩
  item := by
    intro X hP hw hK hc i pins s σ H E I hf st hg
    subst hP hw hK
    obtain ⟨⟨old, he⟩, hit, hne⟩ := st
    obtain ⟨xs, x, hq, hx⟩ := hg
    obtain ⟨its, rv, p, hz⟩ := I.list hq
    obtain ⟨u, hu, ru⟩ := rv.get hx
    have hel : e < s.heap.objs.size := Heap.lt_size he
    have hil : it < s.heap.objs.size := by obtain ⟨_, q, _⟩ := hit; exact Heap.lt_size q
    have hail : a ≠ it := fun z => by
      obtain ⟨o, q, c, d⟩ := hit
      obtain ⟨o2, q2, c2, n2, d2⟩ := p.isList
      rw [← z, q2] at q
      have := Option.some.inj q
      rw [← this, d2] at d
      cases d
    have hae : e ≠ a := fun z => by
      obtain ⟨o2, q2, c2, n2, d2⟩ := p.isList
      have q : s.heap.get? e = _ := he
      rw [z, q2] at q
      have := Option.some.inj q
      rw [this] at d2
      cases d2
    have D := Draws.list (prog := X.prog) (w := X.w) (A := X.A.in1) (I.ok.hd hc) it a hail its.toArray
    refine wpAny_pyNext_enum_itemC D he ⟨hit, p.isList⟩ (by have := item_ltV hx; have := rv.length; simp; omega) hne (by simp [hne, hae]) fun y h' tk hP ho hs' hT hsz hk => ?_
    have ey : y = u := by
      have : its[i]? = some y := by simpa using hP
      rw [hu] at this
      exact (Option.some.inj this).symm
    subst ey
    refine ⟨_, rfl, wpAny_letOwnedTupleGo_enum (s := { s with heap := h', toks := tk + 1 }) ho fun h'' he' sb => ?_⟩
    have hT2 : h''.get? s.heap.objs.size = some { cls := .type "tuple", data := .seq #[.int (k + (i : Nat)) tk, y] } := (sb.2 _ (Nat.ne_of_gt hel)).trans hT
    have new : ObjOk X.prog X.w (upd H s.heap.objs.size (.tup [.int (k + (i : Nat)), x])) h'' s.heap.objs.size (.tup [.int (k + (i : Nat)), x]) :=
      ⟨by show 2 ≤ sizeLine; decide, [.int (k + (i : Nat)) tk, y], .cons ⟨_, rfl⟩ (.cons ru .nil), ⟨_, hT2, rfl, _, rfl⟩⟩
    have I1 : Inv X pins σ (upd H s.heap.objs.size (.tup [.int (k + (i : Nat)), x])) { s with heap := h'', toks := tk + 1 } :=
      I.turnedNew (ch := [e, it]) (fun b ob hb q => (sb.2 b (fun z => hb (by simp [z]))).trans (hk b ob (fun z => hb (by simp [z])) (fun z => hb (by simp [z])) q)) hf (Nat.le_refl _) new
    refine ⟨.ref s.heap.objs.size, _, I1, rfl, ⟨_, x, rfl, I.hok.fresh (Nat.le_refl _), rfl, fun ys hy => by rw [I.list_inj hy hq]; exact hx⟩, ⟨⟨y, ?_⟩, hs'.1.at fun o q => (sb.2 it (Ne.symm hne)).trans q, hne⟩, fun b hb => ?_⟩
    · have e1 : k + ((i + 1 : Nat) : Int) = k + (i : Int) + 1 := by omega
      rw [e1]; exact he'
    · have hb' : b < s.heap.objs.size := by
        have e' : b = e ∨ b = it := by simpa using hb
        rcases e' with z | z
        · rw [z]; exact hel
        · rw [z]; exact hil
      rw [upd_ne (Nat.ne_of_lt hb')]
      exact (hf b hb).1
  done := by
    intro X hP hw hK hc i pins s σ H E I hf st hg
    subst hP hw hK
    obtain ⟨⟨old, he⟩, hit, hne⟩ := st
    obtain ⟨xs, hq, hx⟩ := hg
    obtain ⟨its, rv, p, hz⟩ := I.list hq
    obtain ⟨f0, f1, f2, f3, f4, f5⟩ := hf it (by simp)
    have hl := rv.length
    exact enumS_end (I.ok.hd hc) he hit p.isList (by simp; omega) fun h' eb => ⟨rfl, I.turned (t' := s.toks) (fun b o hb q => eb b o hb q) f0 f1 f3 f4 f5⟩
  self := fun A i s Q E st h => let ⟨⟨_, he⟩, _⟩ := st; wpAny_pyIter_enum he h
def iEnumS (K : PySem.W.Frag) (ta tk : TA) : TI := fun σ H R => ta σ H fun vs H1 => tk σ H1 fun zs H2 => ∃ a xs k, vs = [.ref a] ∧ zs = [.int k] ∧ SqL K H2 a xs ∧ -(2 ^ 63) ≤ k ∧ k < 2 ^ 63 ∧ R (IteS K a k) H2
theorem pi_enumS {X : Cx} {e : Expr} {kws : List Keyword} {ta tk : TA} {p pos tpos : Pos} {elts : List Expr} {kk : Nat} (hg : Gl X "enumerate") (hm : X.mg "enumerate" = none) (ha : PA X [e] ta) (hkw : PK X kws tk)
    (hs : backTo pos (starEach [e] X.env) = (false, eval e X.env) :: backTo pos (starEach [] X.env) := by rfl) (hpl : (backTo pos (starEach [e] X.env)).any (·.1) = false := by rfl)
    (hall : (backToKw pos (keywordEach kws X.env)).all (·.1.isSome) = true := by rfl) (hnone : (backToKw pos (keywordEach kws X.env)).any (·.1.isNone) = false := by rfl) (hks : (backToKw pos (keywordEach kws X.env)).filterMap (·.1) = [("start" : Str)] := by rfl) :
    PI X (.Tuple elts kk tpos) (.Call (.Name "enumerate" p) [e] kws pos) (iEnumS X.K ta tk) := by
  refine ⟨fun pins s σ H R I h => ?_⟩
  refine wpAny_Call_Name_kw (ld_blt I hg hm boot_enumerate ?_)
  refine PyProof.Rows.callWith_typeKw (thn (ha.run pos pins s σ H _ I h) fun us s1 ⟨vs, H1, I1, r1, q1⟩ => thn (hkw.run pos pins s1 σ H1 _ I1 q1) fun ws s2 ⟨zs, H2, I2, r2, q2⟩ => ?_) hs hpl hall hnone
  rw [hks]
  obtain ⟨a, xs, k, ex, ez, hq, k0, k1, q⟩ := q2
  subst ex ez
  cases r1 with
  | cons r rr =>
    cases rr
    cases r
    cases r2 with
    | cons r rr =>
      cases rr
      obtain ⟨t, rfl⟩ := r
      obtain ⟨its, rv, p', hz⟩ := I2.list hq
      have hlt : a < s2.heap.objs.size := by obtain ⟨o, q, _⟩ := p'.isList; exact Heap.lt_size q
      refine enum_begins_start (begins_list a its.toArray) p'.isList k0 k1 fun h' he hit hsz hk => wpAny_pyIter_enum he ?_
      have I3 : Inv X pins σ H2 { s2 with heap := h' } := I2.kept (t' := s2.toks) hk
      refine ⟨s2.heap.objs.size + 1, [s2.heap.objs.size + 1, s2.heap.objs.size], _, _, H2, rfl, I3, turn_enumS a (s2.heap.objs.size + 1) s2.heap.objs.size, ⟨⟨.none, by simpa using he⟩, ⟨_, hit, rfl, rfl⟩, Nat.succ_ne_self _⟩, fun b hb => ?_, q⟩
      have e' : b = s2.heap.objs.size + 1 ∨ b = s2.heap.objs.size := by simpa using hb
      have hle : s2.heap.objs.size ≤ b := by
        rcases e' with z | z
        · rw [z]; exact Nat.le_add_right _ _
        · rw [z]; exact Nat.le_refl _
      exact I2.fpOk hle (I2.hok.fresh hle)
theorem walk_enumS {K : PySem.W.Frag} {a : Addr} {xs : List V} {k : Int} : Walk (IteS K a k) xs.length (fun H => SqL K H a xs) (YPair (fun i => some (.int (k + (i : Nat)))) (fun i => xs[i]?)) := by
  refine ⟨fun i _ hi q => ⟨xs, xs[i], q, by simp [hi]⟩, fun _ q => ⟨xs, q, rfl⟩, fun i H v H' _ q y => ?_⟩
  obtain ⟨T, x, h1, h2, h3, h4⟩ := y
  exact ⟨T, .int (k + (i : Nat)), x, h1, h2, h3, rfl, h4 xs q⟩
end L2
/-! a method of one's own, called in a try -/
namespace L2
open PySem PySem.Spec PyProof.Rows
section
variable {X : Cx} {CX : CXT} {k : Nat} {f C : Addr} {fd : FuncData} {ps : List Str} {sp : Sp}
variable {E : St → XK} {m : Str} {pos apos : Pos} {e o : Expr} {es : List Expr} {ta : TE} {t : TA}
def tMethT (C : Addr) (m : Str) (sp : Sp) (E : St → XK) (ta : TE) (t : TA) : TE := fun σ H Q =>
  ta σ H fun x H1 => ∃ a dx fs, x = .ref a ∧ H1 a = some (.ins C dx fs) ∧ fs.lookup m = none ∧
    t σ H1 fun vs H2 => sp (x :: vs) H2 Q (E σ)
theorem pe_methT {pl : Sem Bool} (he : PE X o ta) (c : Cls X.K C) (hm : Meth X.K C m f)
    (F : FnOk X.prog X.w X.K X.mg X.base CX k f fd ps sp) (hr : Room k X.A) (hb : Binds X.K fd ps [])
    (hx : ∀ σ, PassesAt CX X σ (E σ)) (ha : PA X (e :: es) t)
    (hst : starEach (e :: es) X.env = (false, eval e X.env) :: starEach es X.env := by rfl)
    (hpl : (backTo pos (starEach es X.env)).any (·.1) = false := by rfl)
    (ht : eval (.Call (.Attribute o m apos) (e :: es) [] pos) X.env = (do
        let ov ← eval o X.env
        standAt apos.atName
        let (g, first) ← holding [ov] (getMethod ov m pl)
        callWith pos g first (backTo pos (starEach (e :: es) X.env)) (backToKw pos (keywordEach [] X.env))) := by rfl) :
    PE X (.Call (.Attribute o m apos) (e :: es) [] pos) (tMethT C m sp E ta t) := by
  refine ⟨fun pins s σ H Q I h => PySem.W.methodCall_KW (pl := pl) (thn (he.run pins s σ H _ I h) ?_) ht⟩
  rintro u s1 ⟨x, H1, I1, rx, a, dx, fs, rfl, ea, l, q⟩
  cases (show u = Value.ref a from rx)
  refine getmeth_ok I1 ea c hm l (PySem.W.callWith_K (first := [.ref a]) (h₀ := X.base) I.ok.mod.kin hm.kp ?_ hst hpl)
  refine thn (ha.run pos pins s1 σ H1 _ I1 q) fun us s2 ⟨vs, H2, I2, r, q2⟩ => ⟨I2.kIn, ?_⟩
  exact run_fnS (us := .ref a :: us) (vs := .ref a :: vs) F hr hb (hx σ) I2 (.cons rfl r) q2
theorem pe_methT0 {pl : Sem Bool} (he : PE X o ta) (c : Cls X.K C) (hm : Meth X.K C m f)
    (F : FnOk X.prog X.w X.K X.mg X.base CX k f fd ps sp) (hr : Room k X.A) (hb : Binds X.K fd ps [])
    (hx : ∀ σ, PassesAt CX X σ (E σ))
    (ht : eval (.Call (.Attribute o m apos) [] [] pos) X.env = (do
        let ov ← eval o X.env
        standAt apos.atName
        let (g, first) ← holding [ov] (getMethod ov m pl)
        callWith pos g first (backTo pos (starEach [] X.env)) (backToKw pos (keywordEach [] X.env))) := by rfl) :
    PE X (.Call (.Attribute o m apos) [] [] pos) (tMethT C m sp E ta tNil) := by
  refine ⟨fun pins s σ H Q I h => PySem.W.methodCall_KW (pl := pl) (thn (he.run pins s σ H _ I h) ?_) ht⟩
  rintro u s1 ⟨x, H1, I1, rx, a, dx, fs, rfl, ea, l, q⟩
  cases (show u = Value.ref a from rx)
  refine getmeth_ok I1 ea c hm l (PySem.W.callWith_K0 (first := [.ref a]) I1.kIn hm.kp ?_)
  exact run_fnS (us := [.ref a]) (vs := [.ref a]) F hr hb (hx σ) I1 (.cons rfl .nil) q
end
end L2
/-! sorted(xs) of items that read as data of one shape -/
namespace L2
open PySem PySem.Spec PyProof.Rows
theorem each_of {R : Value → V → Prop} : ∀ {xs : List V} {us : List Value}, Paired RelV xs us → (∀ x ∈ xs, ∀ u, RelV x u → R u x) → PySem.W.EachIs R us xs
  | [], _, .nil, _ => .nil
  | x :: xs, _, .cons r rr, h => .cons (h x (by simp) _ r) (each_of rr fun y m => h y (by simp [m]))
theorem vals_of_each : ∀ {us : List Value} {xs : List V}, PySem.W.EachIs (fun u x => RelV x u) us xs → Paired RelV xs us
  | _, _, .nil => .nil
  | _, _, .cons r rr => .cons r (vals_of_each rr)
def rSortedD (K : PySem.W.Frag) : List V → Hp → VK → Prop := fun vs H Q => ∃ (a : Addr) (xs : List V) (k : V → PyData), vs = [V.ref a] ∧ SqL K H a xs ∧ (∀ x ∈ xs, Dp K H x (k x)) ∧ PySem.W.AllAlike (xs.map k) ∧ PySem.W.Sortable (xs.map k) ∧ (∀ x ∈ xs, (k x).depth ≤ 40) ∧
  ∀ p, H p = none → Q (.ref p) (upd H p (.lst (xs.mergeSort (PySem.W.dataLe false k))))
section
variable {X : Cx}
theorem cr_sortedD (hu : X.A.units + 64 < cLine) : CallR X (.builtin "sorted") (rSortedD X.K) := by
  intro pins s σ H vs us Q I r h
  obtain ⟨a, xs, k, rfl, hs, hx, hal, hk, hd, q⟩ := h
  obtain ⟨its, rv, hl, hz⟩ := I.list hs
  obtain ⟨u, rfl, ru⟩ := vals1 r
  obtain rfl : u = Value.ref a := ru
  refine PySem.W.sorted_data (R := fun u x => RelV x u) (enc := k) hl.isList (each_of rv fun _ _ _ r => r) (each_of rv fun x m u r => Dp.reads I _ x u (hx x m) r) hal hk hz (fun b hb => ?_) fun out hlen eo => ?_
  · have := hd b hb
    omega
  · obtain ⟨n, hn⟩ := sortedAll_at s.heap its out.toArray
    refine ⟨.ref (s.heap.objs.size + 1), _, I.laid (a := s.heap.objs.size + 1) (o := .lst (xs.mergeSort (PySem.W.dataLe false k))) (t' := s.toks) (fun b o e => sortedAll_old e) (Nat.le_succ _) ⟨?_, out, n, vals_of_each eo, hn⟩, rfl, q _ (I.hok.fresh (Nat.le_succ _))⟩
    rw [List.length_mergeSort]
    exact hz
end
end L2
/-! name = {k: v for ..} on one line, the name a local -/
namespace L2
open PySem PySem.Spec PyProof.Rows
section
variable {X : Cx}
theorem sw_dict {kx vx : Expr} {gs : List Comprehension} {scope : Scope} {pos py : Pos} {y : Str} {l : Nat} {env : Env} (hk : env.scope.kind = .function) (hy : env.scope.names.lookup y = some .local) (hl : (py.line == pos.line) = true)
    (ha : (scope.names.any fun (n, k) => n == y && (k == .local || k == .cell)) = false) : swapsWith (.DictComp kx vx gs scope pos) (some (.Name y py)) l env = pure true := by
  have e1 : env.kindOf y = some .local := hy
  have e2 : env.blockKind = .function := by
    unfold Env.blockKind
    rw [hk]
    rfl
  unfold swapsWith
  simp only [e2, e1, ha, Expr.pos, hl]
  rfl
theorem ps_setDc {i : Nat} {y : Str} {py : Pos} {kx vx tg iter : Expr} {ifs : List Expr} {scope : Scope} {own : List (Str × Nat)} {pos spos : Pos} {wi : TI} {g : TG} {tt : TT} {tk tv : TE} (hc : X.calm = true) (hN : X.N.Nodup) (hy : X.N[i]? = some y) (hyl : X.env.scope.names.lookup y = some .local)
    (hsw : swapsWith (.DictComp kx vx [⟨tg, iter, ifs, 0⟩] scope pos) (some (.Name y py)) spos.line X.env = pure true) (hi : PI X tg iter wi) (ok : BlkOk X.N X.env.scope scope own)
    (hg : ∀ (s : Shared) (H : Hp) (C : Addr) (cl : List (Str × Addr)) (fp : List Addr), PG (X.blk s H scope (compEnvC scope cl C X.env) fp) tg g) (ht : ∀ (s : Shared) (H : Hp) (C : Addr) (cl : List (Str × Addr)) (fp : List Addr), PTs (X.blk s H scope (compEnvC scope cl C X.env) fp) ifs tt)
    (hk : ∀ (s : Shared) (H : Hp) (C : Addr) (cl : List (Str × Addr)) (fp : List Addr), PE (X.blk s H scope (compEnvC scope cl C X.env) fp) kx tk)
    (he : ∀ (s : Shared) (H : Hp) (C : Addr) (cl : List (Str × Addr)) (fp : List Addr), PE (X.blk s H scope (compEnvC scope cl C X.env) fp) vx tv) (hs : ∀ x, foldedSetIterable iter X.env x = pure x := by intro _; rfl) :
    PS X (.Assign [.Name y py] (.DictComp kx vx [⟨tg, iter, ifs, 0⟩] scope pos) spos) (tAsg (tDc wi g tt tk tv (own.map (·.2))) (gName i)) := by
  refine ⟨fun pins s σ H D I h => ?_⟩
  rw [exec_Assign_Name_used _ _ _ _ hsw]
  refine wpAny_bind (wpAny_standAt (wpAny_bind ?_))
  show wpAny _ X.A (do let _ ← comprehension (.DictComp kx vx [⟨tg, iter, ifs, 0⟩] scope pos) scope X.env (firstIterPos [⟨tg, iter, ifs, 0⟩] pos) newDict false (eval iter X.env) (some (assign (.Name y py) X.env))) _ _ s
  have h : tDc wi g tt tk tv (own.map (·.2)) σ H (fun x H1 => gName i x σ H1 D.nx) := h
  refine wpAny_bind (thn (dc_core (Qf := fun _ s' => SP X pins D .next s') hc hN I hi ok hg ht hk he hs h fun L C s' m H' I' q hn f => ?_) fun _ s' hq => wpAny_pure (wpAny_pure hq))
  show wpAny _ _ (assign (.Name y py) X.env (.ref L)) _ _ _
  refine wpAny_assign_Name (store_ok2 (v := V.ref L) I' hN hy (.inl hyl) rfl (fun s2 I2 ⟨a, sb, ha⟩ => ?_) (.inr hyl))
  obtain ⟨f0, f1, f2, f3, f4, f5⟩ := f
  have off : C ≠ a := by
    rcases ha with z | z
    · rw [z]
      exact f1
    · exact fun e => f4 y a z e.symm
  exact ⟨m, hn.sameBut sb off, fun h3 sb3 => ⟨_, H', I2.turned (t' := s2.toks) (fun b o hb e => (sb3.2 b hb).trans e) f0 f1 f3 f4 f5, q⟩⟩
end
end L2
namespace L2
open PySem PySem.Spec PyProof.Rows
section
variable {J : It} {n : Nat} {G : Hp → Prop} {Y : Nat → Hp → V → Hp → Prop}
/-- a dict comprehension over it -/
theorem dc_it (w : Walk J n G Y) {g : TG} {tt : TT} {tk tv : TE} {vs : List Nat} {σ : St} {H1 : Hp} {D : Addr} {Qd : Hp → Prop} (Pv : Nat → Hp → Prop) (h0 : Pv 0 (upd H1 D (.dK []))) (hG : ∀ i H, i ≤ n → Pv i H → G H)
    (hs : ∀ i x H H', i < n → Pv i H → Y i H x H' → g x (wipe σ vs) H' fun σ2 H2 => wipe σ2 vs = wipe σ vs ∧ tt σ2 H2 fun b H3 =>
      if b = true then tk σ2 H3 fun y H4 => tv σ2 H4 fun z H5 => ∃ kvs k, y = kV k ∧ H5 D = some (.dK kvs) ∧ kvs.length < sizeLine ∧ Pv (i + 1) (upd H5 D (.dK (putK kvs k z))) else Pv (i + 1) H3) (hd : ∀ H, Pv n H → Qd H) :
    ∃ W : Nat → Nat → Hp → Prop, (∃ m, W 0 m (upd H1 D (.dK []))) ∧ ∀ i m H, W i m H →
      (J.stop i H ∧ Qd H) ∨ (J.go i H ∧ ∃ Nx : Hp → Prop, (∀ H', Nx H' → ∃ m', m' < m ∧ W (i + 1) m' H') ∧ ∀ x H', J.yld i H x H' → g x (wipe σ vs) H' fun σ2 H2 => wipe σ2 vs = wipe σ vs ∧ tt σ2 H2 fun b H3 =>
        if b = true then tk σ2 H3 fun y H4 => tv σ2 H4 fun z H5 => ∃ kvs k, y = kV k ∧ H5 D = some (.dK kvs) ∧ kvs.length < sizeLine ∧ Nx (upd H5 D (.dK (putK kvs k z))) else Nx H3) := by
  refine ⟨fun i m H => m = n - i ∧ i ≤ n ∧ Pv i H, ⟨n, by simp, Nat.zero_le _, h0⟩, ?_⟩
  rintro i m H ⟨rfl, hi, p⟩
  have q := hG i H hi p
  by_cases hlt : i < n
  · refine .inr ⟨w.goes i H hlt q, Pv (i + 1), fun H' p' => ⟨n - (i + 1), by omega, rfl, hlt, p'⟩, fun x H' y => hs i x H H' hlt p (w.yields i H x H' hlt q y)⟩
  · have e : i = n := by omega
    subst e
    exact .inl ⟨w.stops H q, hd H p⟩
end
end L2
namespace L2
open PySem PySem.Spec PyProof.Rows
/-- a def whose keyword-only parameters are all given, in their order -/
theorem kbn_mk {K : PySem.W.Frag} {x qual : Str} {st : Stmt} {f : Addr} {fd : FuncData} {ps ks : List Str} {n : Nat} (F : Fun K x qual st f fd)
    (h : ∀ (kV doc pm : Value) (an : Option Addr) (cdv ct : Value) (us ws : List Value), us.length = n → ws.length = ks.length →
      bindArgs (PySem.W.fnOf x qual (defArgs st) (defBody st) (defScope st) .none kV doc pm an cdv ct) ⟨us, ks.zip ws⟩ = pure (ps.zip (us ++ ws))) :
    KBn K fd ps n ks (fun us ws => us ++ ws) (fun vs zs => vs ++ zs) := by
  obtain ⟨oc, od, kV, doc, pm, an, cdv, ct, osl, rfl, lk, hc⟩ := F.ex
  refine ⟨fun s us ws _ l1 l2 => .of_eq (h kV doc pm an cdv ct us ws l1 l2), fun r1 r2 => ?_⟩
  induction r1 with
  | nil => exact r2
  | cons a _ ih => exact .cons a ih
end L2
/-! tuples and dicts of texts that stand in the written part -/
namespace L2
open PySem PySem.Spec PyProof.Rows
def KTp (K : PySem.W.Frag) (a : Addr) (xs : List V) : Prop := ∃ (o : Obj) (its : Array Value) (n : Nat), K.lookup a = some o ∧ o.cls = .type "tuple" ∧ o.data = .seq its n ∧ its.size ≤ sizeLine ∧ Vals xs its.toList
theorem KTp.sq {K : PySem.W.Frag} {a : Addr} {xs : List V} (h : KTp K a xs) (H : Hp) : SqT K H a xs := .inr h
theorem vals_txt : ∀ ks : List (Str × Nat), Vals (ks.map fun k => V.str k.1) (ks.map fun k => Value.str k.1 k.2)
  | [] => .nil
  | _ :: ks => .cons ⟨_, rfl⟩ (vals_txt ks)
theorem ktp_of {K : PySem.W.Frag} {a : Addr} {n : Nat} {sl : Array (Option Value)} {dd : Option Addr} (ks : List (Str × Nat)) (h : K.lookup a = some ⟨.type "tuple", dd, .seq (ks.map fun k => Value.str k.1 k.2).toArray n, sl⟩) (hl : ks.length ≤ 1000) : KTp K a (ks.map fun k => V.str k.1) :=
  ⟨_, _, _, h, rfl, rfl, by rw [List.size_toArray, List.length_map]; exact Nat.le_trans hl (by decide), vals_txt ks⟩
def entT (w : World) (r : Str × Nat × Addr × List Str) : DictEntry := ⟨PyData.keyHash w.params r.1, .str r.1 r.2.1, .ref r.2.2.1⟩
def KTab (K : PySem.W.Frag) (w : World) (d : Addr) (tab : List (Str × List Str)) : Prop := ∃ (rows : List (Str × Nat × Addr × List Str)) (n : Nat), K.lookup d = some ⟨.type "dict", none, .dict (rows.map (entT w)).toArray n, #[]⟩ ∧ (d == sysModules) = false ∧ (∀ r ∈ rows, KTp K r.2.2.1 (r.2.2.2.map V.str)) ∧ rows.map (fun r => (r.1, r.2.2.2)) = tab
theorem keys_lit (w : World) : ∀ rows : List (Str × Nat × Addr × List Str), PySem.W.KeysLit w.params (rows.map (entT w))
  | [] => trivial
  | _ :: rows => ⟨⟨_, _, rfl, rfl⟩, keys_lit w rows⟩
theorem find_rows (w : World) (z : Str) : ∀ rows : List (Str × Nat × Addr × List Str), (rows.map (entT w)).find? (·.key.isStr z) = (rows.find? (fun r => r.1 == z)).map (entT w)
  | [] => rfl
  | r :: rows => by
    rw [List.map_cons, List.find?_cons, List.find?_cons]
    have e : (entT w r).key.isStr z = (r.1 == z) := by rfl
    rw [e]
    cases r.1 == z with
    | true => rfl
    | false => exact find_rows w z rows
theorem find_tab (z : Str) : ∀ rows : List (Str × Nat × Addr × List Str), (rows.map fun r => (r.1, r.2.2.2)).find? (fun r => r.1 == z) = (rows.find? (fun r => r.1 == z)).map fun r => (r.1, r.2.2.2)
  | [] => rfl
  | r :: rows => by
    rw [List.map_cons, List.find?_cons, List.find?_cons]
    cases r.1 == z with
    | true => rfl
    | false => exact find_tab z rows
theorem no_ref (w : World) : ∀ rows : List (Str × Nat × Addr × List Str), ((rows.map (entT w)).any (·.refKey)) = false
  | [] => rfl
  | r :: rows => by
    rw [List.map_cons, List.any_cons, no_ref w rows]
    rfl
theorem KTab.ns {K : PySem.W.Frag} {w : World} {d : Addr} {tab : List (Str × List Str)} (h : KTab K w d tab) (z : Str) : (tab.find? (fun r => r.1 == z) = none ∧ PySem.W.nsIn K d z = some none) ∨ ∃ r t, tab.find? (fun r => r.1 == z) = some r ∧ PySem.W.nsIn K d z = some (some (.ref t)) ∧ KTp K t (r.2.map V.str) := by
  obtain ⟨rows, n, hl, _, ht, rfl⟩ := h
  have e : PySem.W.nsIn K d z = match (rows.find? (fun r => r.1 == z)).map (entT w) with
    | some e => some (some e.val)
    | none => some none := by
    unfold PySem.W.nsIn
    rw [hl]
    dsimp only
    rw [find_rows]
    cases (rows.find? (fun r => r.1 == z)).map (entT w) with
    | some e => rfl
    | none =>
      dsimp only
      rw [no_ref]
      rfl
  rw [find_tab, e]
  cases q : rows.find? (fun r => r.1 == z) with
  | none => exact .inl ⟨rfl, rfl⟩
  | some r => exact .inr ⟨_, r.2.2.1, rfl, rfl, ht r (List.mem_of_find?_eq_some q)⟩
section
variable {X : Cx} {d : Addr} {tab : List (Str × List Str)}
theorem op_notIn_tab (D : KTab X.K X.w d tab) : OpR X (compareOp .NotIn) (fun x y H Q => ∃ z : Str, x = .str z ∧ y = .ref d ∧ Q (.bl (!(tab.find? (fun r => r.1 == z)).isSome)) H) := by
  intro pins s σ H x y v u Q I rx ry h
  obtain ⟨z, rfl, rfl, q⟩ := h
  have hn := D.ns z
  obtain ⟨rows, n, hl, hs, ht, _⟩ := D
  have kd : KDict X.K X.w d (rows.map (entT X.w)).toArray n := ⟨hl, keys_lit X.w rows, hs⟩
  rcases hn with ⟨h1, h2⟩ | ⟨r, t, h1, h2, _⟩
  · exact op_notIn_kd kd pins s σ H _ _ v u Q I rx ry ⟨z, none, rfl, rfl, h2, by rw [h1] at q; exact q⟩
  · exact op_notIn_kd kd pins s σ H _ _ v u Q I rx ry ⟨z, _, rfl, rfl, h2, by rw [h1] at q; exact q⟩
theorem ix_tab (D : KTab X.K X.w d tab) : IxR X (fun x y H Q => ∃ (z : Str) (r : Str × List Str), x = .ref d ∧ y = .str z ∧ tab.find? (fun r => r.1 == z) = some r ∧ ∀ t, (∀ H', SqT X.K H' t (r.2.map V.str)) → Q (.ref t) H) := by
  intro value slice pins s σ H x y v u Q I rx ry h hs
  obtain ⟨z, r, rfl, rfl, e, q⟩ := h
  have hn := D.ns z
  obtain ⟨rows, n, hl, _, ht, _⟩ := D
  rcases hn with ⟨h1, h2⟩ | ⟨r', t, h1, h2, h3⟩
  · rw [e] at h1; cases h1
  · rw [e] at h1
    cases h1
    exact ix_kdict value slice pins s σ H _ _ v u Q I rx ry ⟨d, z, .ref t, rfl, rfl, ⟨_, n, _, hl, keys_lit X.w rows, h2, rfl⟩, q t fun H' => h3.sq H'⟩ hs
end
theorem all_cons {α : Type} {P : α → Prop} {x : α} {xs : List α} (h : P x) (hs : ∀ y ∈ xs, P y) : ∀ y ∈ x :: xs, P y := fun y m => by
  rcases List.mem_cons.mp m with m | m
  · rw [m]; exact h
  · exact hs y m
end L2
/-! own rules: dicts whose keys are nested tuples (of whole numbers, texts and None), whose values are None, truth values or things in the heap -/
namespace L2
open PySem PySem.Spec PyProof.Rows
def onlyV : V → Option Value
  | .ref b => some (.ref b)
  | .bl b => some (.bool b)
  | .non => some .none
  | _ => none
def toV (v : V) : Value := (onlyV v).getD .none
def Fix (v : V) : Prop := (onlyV v).isSome = true
theorem Fix.val {v : V} {r : Value} (h : Fix v) (rel : RelV v r) : r = toV v := by
  cases v <;> first | exact rel | exact Bool.noConfusion (show false = true from h)
theorem Fix.rel {v : V} (h : Fix v) : RelV v (toV v) := by
  cases v <;> first | rfl | exact Bool.noConfusion (show false = true from h)
theorem fix_ref (b : Addr) : Fix (.ref b) := rfl
theorem fix_bl (b : Bool) : Fix (.bl b) := rfl
theorem fix_non : Fix .non := rfl
/-- an entry: the key, its own tuple, the value -/
abbrev NE := NestedKey × Addr × V
def neH (x : NE) : NestedKey × Addr × Value := (x.1, x.2.1, toV x.2.2)
def atN (xs : List NE) (k : NestedKey) : Option (Addr × V) := (xs.find? fun x => decide (x.1 = k)).map (·.2)
def putN (xs : List NE) (k : NestedKey) (b : Addr) (v : V) : List NE := if (atN xs k).isSome = true then xs.map (fun x => if x.1 = k then (x.1, x.2.1, v) else x) else xs ++ [(k, b, v)]
def outN (xs : List NE) (k : NestedKey) : List NE := xs.filter fun x => decide (x.1 ≠ k)
theorem atKey_neH (xs : List NE) (k : NestedKey) : atKey (xs.map neH) k = (atN xs k).map fun p => (p.1, toV p.2) := by
  induction xs with
  | nil => rfl
  | cons x xs ih =>
    by_cases h : x.1 = k
    · simp [atKey, atN, neH, h]
    · simpa [atKey, atN, neH, h] using ih
theorem stored_neH (xs : List NE) (k : NestedKey) (b : Addr) (v : V) : storedH (xs.map neH) k b (toV v) = (putN xs k b v).map neH := by
  unfold storedH putN
  rw [atKey_neH, Option.isSome_map]
  split
  · rw [List.map_map, List.map_map]
    refine List.map_congr_left fun x _ => ?_
    by_cases h : x.1 = k <;> simp [putAt, neH, h]
  · rw [List.map_append]
    rfl
theorem without_neH (xs : List NE) (k : NestedKey) : withoutH (xs.map neH) k = (outN xs k).map neH := by
  induction xs with
  | nil => rfl
  | cons x xs ih =>
    by_cases h : x.1 = k
    · simpa [withoutH, outN, List.filter_cons, neH, h] using ih
    · simpa [withoutH, outN, List.filter_cons, neH, h] using ih
theorem keys_neH (xs : List NE) : (xs.map neH).map (·.1) = xs.map (·.1) := by simp [neH, Function.comp_def]
theorem putN_len (xs : List NE) (k : NestedKey) (b : Addr) (v : V) : (putN xs k b v).length ≤ xs.length + 1 := by
  unfold putN
  split <;> simp
theorem putN_mem {xs : List NE} {k : NestedKey} {b : Addr} {v : V} {x : NE} (m : x ∈ putN xs k b v) : x = (k, b, v) ∨ (∃ y ∈ xs, x.1 = y.1 ∧ x.2.1 = y.2.1 ∧ (x.2.2 = y.2.2 ∨ x.2.2 = v)) := by
  unfold putN at m
  split at m
  · obtain ⟨y, my, e⟩ := List.mem_map.mp m
    right
    refine ⟨y, my, ?_⟩
    by_cases h : y.1 = k
    · rw [if_pos h] at e; subst e; exact ⟨rfl, rfl, .inr rfl⟩
    · rw [if_neg h] at e; subst e; exact ⟨rfl, rfl, .inl rfl⟩
  · rcases List.mem_append.mp m with m | m
    · exact .inr ⟨x, m, rfl, rfl, .inl rfl⟩
    · exact .inl (List.mem_singleton.mp m)
theorem atN_iff {xs : List NE} {k : NestedKey} : (atN xs k).isSome = true ↔ ∃ x ∈ xs, x.1 = k := by
  unfold atN
  rw [Option.isSome_map, List.find?_isSome]
  constructor
  · rintro ⟨x, m, e⟩
    exact ⟨x, m, of_decide_eq_true e⟩
  · rintro ⟨x, m, e⟩
    exact ⟨x, m, decide_eq_true e⟩
theorem putN_iff {xs : List NE} {k k' : NestedKey} {b : Addr} {v : V} : (atN (putN xs k b v) k').isSome = true ↔ k' = k ∨ (atN xs k').isSome = true := by
  rw [atN_iff, atN_iff]
  constructor
  · rintro ⟨x, m, e⟩
    rcases putN_mem m with z | ⟨y, my, e1, _⟩
    · rw [z] at e
      exact .inl e.symm
    · exact .inr ⟨y, my, e1.symm.trans e⟩
  · unfold putN
    by_cases c : (atN xs k).isSome = true
    · rw [if_pos c]
      obtain ⟨y, my, ey⟩ := atN_iff.mp c
      rintro (e | ⟨x, m, e⟩)
      · exact ⟨_, List.mem_map.mpr ⟨y, my, rfl⟩, by rw [if_pos ey, ey, e]⟩
      · refine ⟨_, List.mem_map.mpr ⟨x, m, rfl⟩, ?_⟩
        by_cases d : x.1 = k
        · rw [if_pos d]; exact e
        · rw [if_neg d]; exact e
    · rw [if_neg c]
      rintro (e | ⟨x, m, e⟩)
      · exact ⟨(k, b, v), by simp, e.symm⟩
      · exact ⟨x, List.mem_append_left _ m, e⟩
theorem putN_new {xs : List NE} {k : NestedKey} (h : ∀ x ∈ xs, x.1 ≠ k) (b : Addr) (v : V) : putN xs k b v = xs ++ [(k, b, v)] := by
  unfold putN
  rw [if_neg fun z => ?_]
  obtain ⟨x, m, e⟩ := atN_iff.mp z
  exact h x m e
/-- what stands at such a dict's place -/
def RawN (w : World) (d : Addr) (xs : List NE) : Heap → Prop := fun h => xs.length ≤ sizeLine ∧ (d == sysModules) = false ∧ (xs.map (·.1)).Nodup ∧ (∀ x ∈ xs, Fix x.2.2) ∧
  ∃ (ob : Obj) (es : Array DictEntry) (n : Nat), h.get? d = some ob ∧ ob.ExactDict ∧ ob.data = .dict es n ∧ es.toList = xs.map fun x => (⟨x.1.hash w, .ref x.2.1, toV x.2.2⟩ : DictEntry)
def NO (w : World) (d : Addr) (xs : List NE) : HO := .ext (RawN w d xs)
theorem RawN.stay {w : World} {d : Addr} {xs : List NE} {h1 h2 : Heap} (r : RawN w d xs h1) (k : ∀ ob, h1.get? d = some ob → h2.get? d = some ob) : RawN w d xs h2 := by
  obtain ⟨a1, a2, a3, a4, ob, es, n, e1, e2⟩ := r
  exact ⟨a1, a2, a3, a4, ob, es, n, k _ e1, e2⟩
theorem RawN.ok {P : Program} {w : World} {H : Hp} {h : Heap} {d : Addr} {xs : List NE} (r : RawN w d xs h) : ObjOk P w H h d (NO w d xs) := by
  obtain ⟨_, _, _, _, ob, _, _, e1, _⟩ := id r
  exact ⟨r, ⟨ob, e1⟩, fun _ _ r' k => r'.stay k⟩
mutual
/-- a value that is a key, by what the heap tells of tuples -/
inductive NK (H : Hp) : NestedKey → V → Prop
  | num (i : Int) : NK H (.num i) (.int i)
  | text (z : Str) : NK H (.text z) (.str z)
  | non : NK H .none .non
  | tup {b : Addr} {vs : List V} {ks : List NestedKey} : H b = some (.tup vs) → NKs H ks vs → NK H (.tup ks) (.ref b)
inductive NKs (H : Hp) : List NestedKey → List V → Prop
  | nil : NKs H [] []
  | cons {k : NestedKey} {v : V} {ks : List NestedKey} {vs : List V} : NK H k v → NKs H ks vs → NKs H (k :: ks) (v :: vs)
end
mutual
theorem NK.is {P : Program} {w : World} {H : Hp} {h : Heap} (ok : HOk P w H h) : ∀ (k : NestedKey) (v : V) (u : Value), NK H k v → RelV v u → NestedIs h k u
  | .none, _, _, x, r => by cases x; cases (show _ = Value.none from r); exact .none
  | .num i, _, _, x, r => by cases x; obtain ⟨t, rfl⟩ := (show ∃ t, _ = Value.int i t from r); exact .int i t
  | .text z, _, _, x, r => by cases x; obtain ⟨t, rfl⟩ := (show ∃ t, _ = Value.str z t from r); exact .text z t
  | .tup ks, _, _, x, r => by
    cases x with
    | tup hb hs =>
      cases (show _ = Value.ref _ from r)
      obtain ⟨_, its, rel, o, h1, h2, n, h3⟩ := (show ObjOk P w H h _ (.tup _) from ok _ _ hb)
      exact .tup h1 h2 h3 (NKs.is ok ks _ its hs rel)
theorem NKs.is {P : Program} {w : World} {H : Hp} {h : Heap} (ok : HOk P w H h) : ∀ (ks : List NestedKey) (vs : List V) (us : List Value), NKs H ks vs → Vals vs us → NestedAll h ks us
  | [], _, _, x, r => by cases x; cases r; exact .nil
  | k :: ks, _, _, x, r => by
    cases x with
    | cons x1 x2 =>
      cases r with
      | cons r1 r2 => exact .cons (NK.is ok k _ _ x1 r1) (NKs.is ok ks _ _ x2 r2)
end
mutual
theorem NK.at {H H' : Hp} (s : ∀ b ys, H b = some (.tup ys) → H' b = some (.tup ys)) : ∀ (k : NestedKey) (v : V), NK H k v → NK H' k v
  | .none, _, x => by cases x; exact .non
  | .num i, _, x => by cases x; exact .num i
  | .text z, _, x => by cases x; exact .text z
  | .tup ks, _, x => by
    cases x with
    | tup hb hs => exact .tup (s _ _ hb) (NKs.at s ks _ hs)
theorem NKs.at {H H' : Hp} (s : ∀ b ys, H b = some (.tup ys) → H' b = some (.tup ys)) : ∀ (ks : List NestedKey) (vs : List V), NKs H ks vs → NKs H' ks vs
  | [], _, x => by cases x; exact .nil
  | k :: ks, _, x => by
    cases x with
    | cons x1 x2 => exact .cons (NK.at s k _ x1) (NKs.at s ks _ x2)
end
/-- the keys of a dict stand -/
def NKeys (H : Hp) (xs : List NE) : Prop := ∀ x ∈ xs, NK H x.1 (.ref x.2.1) ∧ x.1.depth ≤ 8
theorem NKeys.at {H H' : Hp} {xs : List NE} (h : NKeys H xs) (s : ∀ b ys, H b = some (.tup ys) → H' b = some (.tup ys)) : NKeys H' xs := fun x m => ⟨NK.at s _ _ (h x m).1, (h x m).2⟩
theorem NKeys.same {H H' : Hp} {xs : List NE} (h : NKeys H xs) (s : Same H H') : NKeys H' xs := h.at fun b ys e => s b _ e
theorem NKeys.put {H : Hp} {xs : List NE} {k : NestedKey} {b : Addr} {v : V} (h : NKeys H xs) (hk : NK H k (.ref b)) (hd : k.depth ≤ 8) : NKeys H (putN xs k b v) := fun x m => by
  rcases putN_mem m with e | ⟨y, my, e1, e2, _⟩
  · rw [e]; exact ⟨hk, hd⟩
  · rw [e1, e2]; exact h y my
theorem NKeys.out {H : Hp} {xs : List NE} {k : NestedKey} (h : NKeys H xs) : NKeys H (outN xs k) := fun x m => h x (List.mem_filter.mp m).1
theorem raw_dict {P : Program} {w : World} {H : Hp} {h : Heap} {d : Addr} {xs : List NE} (ok : HOk P w H h) (r : RawN w d xs h) (ks : NKeys H xs) : h.DictOfH (nestedKind P w) d (xs.map neH) := by
  obtain ⟨_, _, nd, _, ob, es, n, e1, e2, e3, e4⟩ := r
  refine ⟨ob, es, n, e1, e2, e3, ?_, fun x m => ?_, by rw [keys_neH]; exact nd⟩
  · rw [e4, List.map_map]
    rfl
  · obtain ⟨y, my, rfl⟩ := List.mem_map.mp m
    exact ⟨NK.is ok _ _ _ (ks y my).1 rfl, (ks y my).2⟩
theorem dict_raw {P : Program} {w : World} {h : Heap} {d : Addr} {xs : List NE} (dd : h.DictOfH (nestedKind P w) d (xs.map neH)) (hl : xs.length ≤ sizeLine) (hs : (d == sysModules) = false) (fx : ∀ x ∈ xs, Fix x.2.2) : RawN w d xs h := by
  obtain ⟨ob, es, n, e1, e2, e3, e4, _, nd⟩ := dd
  refine ⟨hl, hs, by rw [← keys_neH]; exact nd, fx, ob, es, n, e1, e2, e3, ?_⟩
  rw [e4, List.map_map]
  rfl
theorem no_raw {P : Program} {w : World} {H : Hp} {h : Heap} {d : Addr} {xs : List NE} (ok : HOk P w H h) (e : Rd H d (NO w d xs)) : RawN w d xs h := (show ObjOk P w H h d (NO w d xs) from e.ok ok).1
section
variable {X : Cx} {pins : List (Addr × Obj)} {σ : St} {H : Hp} {s : Shared} {d b : Addr} {xs : List NE} {k : NestedKey} {A : Around} {E : Value → Shared → Prop}
theorem nd_room (hu : A.units + 64 < cLine) : (nestedKind X.prog X.w).room A.in1 := by
  show A.units + 1 + 8 < cLine
  omega
/-- an entry is written, whatever writes it -/
theorem nd_put {v : V} {h' : Heap} {tk : Nat} (I : Inv X pins σ H s) (e : H d = some (NO X.w d xs)) (ks : NKeys H xs) (hz : xs.length < sizeLine) (fx : Fix v) (dd : h'.DictOfH (nestedKind X.prog X.w) d (storedH (xs.map neH) k b (toV v))) (sb : Heap.SameBut d s.heap h') :
    Inv X pins σ (upd H d (NO X.w d (putN xs k b v))) { s with heap := h', toks := tk } := by
  have r := no_raw I.hok (.inl e)
  rw [stored_neH] at dd
  have r' : RawN X.w d (putN xs k b v) h' := dict_raw dd (by have := putN_len xs k b v; omega) r.2.1 fun x m => by
    rcases putN_mem m with z | ⟨y, my, _, _, z | z⟩
    · rw [z]; exact fx
    · rw [z]; exact r.2.2.2.1 y my
    · rw [z]; exact fx
  obtain ⟨_, _, _, _, ob, _, _, e1, _⟩ := id r'
  exact d_write I (by rw [e]; exact True.intro) sb ⟨ob, e1⟩ r'.ok
end
/-! the words -/
def tNGet (w : World) (td ty : TE) : TE := fun σ H Q => td σ H fun x H1 => ty σ H1 fun y H2 => ∃ (d b b' : Addr) (xs : List NE) (k : NestedKey) (v : V), x = .ref d ∧ Rd H2 d (NO w d xs) ∧ NKeys H2 xs ∧ y = .ref b ∧ NK H2 k (.ref b) ∧ k.depth ≤ 8 ∧ atN xs k = some (b', v) ∧ Q v H2
def tNIn (w : World) (ty td : TE) : TE := fun σ H Q => ty σ H fun y H1 => td σ H1 fun x H2 => ∃ (d b : Addr) (xs : List NE) (k : NestedKey), x = .ref d ∧ Rd H2 d (NO w d xs) ∧ NKeys H2 xs ∧ y = .ref b ∧ NK H2 k (.ref b) ∧ k.depth ≤ 8 ∧ Q (.bl (atN xs k).isSome) H2
def tNNotIn (w : World) (ty td : TE) : TE := fun σ H Q => ty σ H fun y H1 => td σ H1 fun x H2 => ∃ (d b : Addr) (xs : List NE) (k : NestedKey), x = .ref d ∧ Rd H2 d (NO w d xs) ∧ NKeys H2 xs ∧ y = .ref b ∧ NK H2 k (.ref b) ∧ k.depth ≤ 8 ∧ Q (.bl (!(atN xs k).isSome)) H2
def sNPut (w : World) (td ty tv : TE) : TS := fun D σ H => tv σ H fun v H1 => td σ H1 fun x H2 => ty σ H2 fun y H3 => ∃ (d b : Addr) (xs : List NE) (k : NestedKey), x = .ref d ∧ H3 d = some (NO w d xs) ∧ NKeys H3 xs ∧ y = .ref b ∧ NK H3 k (.ref b) ∧ k.depth ≤ 8 ∧ Fix v ∧ xs.length < sizeLine ∧ D.nx σ (upd H3 d (NO w d (putN xs k b v)))
def sNDel (w : World) (td ty : TE) : TS := fun D σ H => td σ H fun x H1 => ty σ H1 fun y H2 => ∃ (d b : Addr) (xs : List NE) (k : NestedKey), x = .ref d ∧ H2 d = some (NO w d xs) ∧ NKeys H2 xs ∧ y = .ref b ∧ NK H2 k (.ref b) ∧ k.depth ≤ 8 ∧ (atN xs k).isSome = true ∧ D.nx σ (upd H2 d (NO w d (outN xs k)))
def tNNew (w : World) : TE := fun _ H Q => ∀ p, H p = none → Q (.ref p) (upd H p (NO w p []))
theorem raw_new (w : World) (h : Heap) (hb : sysModules < h.objs.size) : RawN w h.objs.size [] (h.push { cls := .type "dict", data := .dict #[] }) :=
  ⟨Nat.zero_le _, beq_eq_false_iff_ne.mpr (Ne.symm (Nat.ne_of_lt hb)), List.nodup_nil, fun _ m => (nomatch m), _, #[], 0, Heap.get?_push_size _ rfl, ⟨rfl, rfl, rfl⟩, rfl, rfl⟩
section
variable {X : Cx} {o i value : Expr} {pos pos' tpos : Pos} {td ty tv : TE}
theorem pe_nnew : PE X (.Dict [] [] pos) (tNNew X.w) := ⟨fun _ st _ Hh _ Iv hw =>
  wpAny_Dict_empty ⟨.ref st.heap.objs.size, _, Iv.laid (a := st.heap.objs.size) (o := NO X.w st.heap.objs.size []) (t' := st.toks) (fun _ _ z => Heap.get?_push_of_some _ z) (Nat.le_refl _) (raw_new X.w st.heap Iv.big).ok, rfl, hw _ (Iv.hok.fresh (Nat.le_refl _))⟩⟩
theorem pe_nget (hu : X.A.units + 64 < cLine) (ho : PE X o td) (hi : PE X i ty) (hs : NoSl i) : PE X (.Subscript o i pos) (tNGet X.w td ty) := by
  refine ⟨fun pn st sg Hh Qq Iv hw => ?_⟩
  refine subD_of PySem.F.slot_dict_getitem.lookup hs (thn (ho.run pn st sg Hh _ Iv hw) fun u s1 ⟨x, H1, I1, rx, q1⟩ => thn (hi.run pn s1 sg H1 _ I1 q1) fun iv s2 ⟨y, H2, I2, ry, d, b, b', xs, k, v, ex, g, ks, ey, hk, hd, hv, q2⟩ => ?_)
  subst ex ey
  obtain rfl : u = Value.ref d := rx
  obtain rfl : iv = Value.ref b := ry
  have r := no_raw I2.hok g
  have dd := raw_dict I2.hok r ks
  refine ⟨dd.typeIs, wpAny_getItem_heap (nd_room hu) ⟨NK.is I2.hok _ _ _ hk rfl, hd⟩ dd (by rw [atKey_neH, hv]; rfl) ?_⟩
  have fx : Fix v := by
    unfold atN at hv
    cases z : xs.find? fun x => decide (x.1 = k) with
    | none => rw [z] at hv; cases hv
    | some e =>
      rw [z] at hv
      have : e.2 = (b', v) := Option.some.inj hv
      have := r.2.2.2.1 e (List.mem_of_find?_eq_some z)
      rwa [show e.2.2 = v by rw [‹e.2 = (b', v)›]] at this
  exact ⟨v, H2, I2.tok _, fx.rel, q2⟩
theorem pc_nin (hu : X.A.units + 64 < cLine) (hi : PE X i ty) (ho : PE X o td) : PC X .In i o (tNIn X.w ty td) := by
  refine ⟨fun pn st sg Hh Qq Iv hw => ?_⟩
  refine thn (hi.run pn st sg Hh _ Iv hw) fun iv s1 ⟨y, H1, I1, ry, q1⟩ => thn (ho.run pn s1 sg H1 _ I1 q1) fun u s2 ⟨x, H2, I2, rx, d, b, xs, k, ex, g, ks, ey, hk, hd, q2⟩ => ?_
  subst ex ey
  obtain rfl : u = Value.ref d := rx
  obtain rfl : iv = Value.ref b := ry
  have r := no_raw I2.hok g
  refine wpAny_in_heap (nd_room hu) ⟨NK.is I2.hok _ _ _ hk rfl, hd⟩ r.2.1 (raw_dict I2.hok r ks) ?_
  rw [atKey_neH, Option.isSome_map]
  exact ⟨.bl (atN xs k).isSome, H2, I2.tok _, rfl, q2⟩
theorem pc_nnotin (hu : X.A.units + 64 < cLine) (hi : PE X i ty) (ho : PE X o td) : PC X .NotIn i o (tNNotIn X.w ty td) := by
  refine ⟨fun pn st sg Hh Qq Iv hw => ?_⟩
  refine thn (hi.run pn st sg Hh _ Iv hw) fun iv s1 ⟨y, H1, I1, ry, q1⟩ => thn (ho.run pn s1 sg H1 _ I1 q1) fun u s2 ⟨x, H2, I2, rx, d, b, xs, k, ex, g, ks, ey, hk, hd, q2⟩ => ?_
  subst ex ey
  obtain rfl : u = Value.ref d := rx
  obtain rfl : iv = Value.ref b := ry
  have r := no_raw I2.hok g
  refine wpAny_notIn_heap (nd_room hu) ⟨NK.is I2.hok _ _ _ hk rfl, hd⟩ r.2.1 (raw_dict I2.hok r ks) ?_
  rw [atKey_neH, Option.isSome_map]
  exact ⟨.bl (!(atN xs k).isSome), H2, I2.tok _, rfl, q2⟩
theorem ps_nput (hu : X.A.units + 64 < cLine) (ho : PE X o td) (hi : PE X i ty) (hv : PE X value tv) (hs : swapsWith value (some (.Subscript o i pos')) pos.line X.env = pure false) :
    PS X (.Assign [.Subscript o i pos'] value pos) (sNPut X.w td ty tv) := by
  refine ⟨fun pn st sg Hh D Iv hw => ?_⟩
  refine wpAny_Assign_Subscript (thn (hv.run pn st sg Hh _ Iv hw) fun r s1 ⟨v, H1, I1, rv, q1⟩ => thn (ho.run pn s1 sg H1 _ I1 q1) fun u s2 ⟨x, H2, I2, rx, q2⟩ => thn (hi.run pn s2 sg H2 _ I2 q2) fun iv s3 ⟨y, H3, I3, ry, d, b, xs, k, ex, g, ks, ey, hk, hd, fx, hz, q3⟩ => ?_) hs
  subst ex ey
  obtain rfl : u = Value.ref d := rx
  obtain rfl : iv = Value.ref b := ry
  obtain rfl := fx.val rv
  refine wpAny_setItem_heap (hsz := by rw [List.length_map]; omega) (nd_room hu) ⟨NK.is I3.hok _ _ _ hk rfl, hd⟩ (raw_dict I3.hok (no_raw I3.hok (.inl g)) ks) fun h' dd sb => ?_
  exact ⟨sg, _, nd_put I3 g ks hz fx dd sb, q3⟩
theorem ps_ndel (hu : X.A.units + 64 < cLine) (ho : PE X o td) (hi : PE X i ty) : PS X (.Delete [.Subscript o i tpos] pos) (sNDel X.w td ty) := by
  refine ⟨fun pn st sg Hh D Iv hw => ?_⟩
  refine wpAny_Delete (wpAny_deleteEach_cons (wpAny_delete_Subscript (thn (ho.run pn st sg Hh _ Iv hw) fun u s1 ⟨x, H1, I1, rx, q1⟩ => thn (hi.run pn s1 sg H1 _ I1 q1) fun iv s2 ⟨y, H2, I2, ry, d, b, xs, k, ex, g, ks, ey, hk, hd, hv, q2⟩ => ?_)))
  subst ex ey
  obtain rfl : u = Value.ref d := rx
  obtain rfl : iv = Value.ref b := ry
  have r := no_raw I2.hok (.inl g)
  obtain ⟨p, hp⟩ := Option.isSome_iff_exists.mp hv
  refine wpAny_delItem_heap (hsz := by rw [List.length_map]; exact r.1) (nd_room hu) ⟨NK.is I2.hok _ _ _ hk rfl, hd⟩ r.2.1 (raw_dict I2.hok r ks) (p := (p.1, toV p.2)) (by rw [atKey_neH, hp]; rfl) fun h' dd sb => ?_
  rw [without_neH] at dd
  have r' : RawN X.w d (outN xs k) h' := dict_raw dd (Nat.le_trans (List.length_filter_le _ _) r.1) r.2.1 fun x m => r.2.2.2.1 x (List.mem_filter.mp m).1
  obtain ⟨_, _, _, _, ob, _, _, e1, _⟩ := id r'
  exact wpAny_deleteEach_nil ⟨sg, _, d_write I2 (by rw [g]; exact True.intro) sb ⟨ob, e1⟩ r'.ok, q2⟩
end
/-! for k in d -/
def ItNk (w : World) (d : Addr) (o : Obj) (xs : List NE) : It :=
  ⟨fun i H => H d = some (.frz o (NO w d xs)) ∧ i < xs.length, fun i H x H' => H' = H ∧ ∃ e : NE, xs[i]? = some e ∧ x = .ref e.2.1, fun i H => H d = some (.frz o (NO w d xs)) ∧ xs.length ≤ i⟩
theorem frz_raw {P : Program} {w : World} {H : Hp} {h : Heap} {d : Addr} {o : Obj} {xs : List NE} (ok : HOk P w H h) (e : H d = some (.frz o (NO w d xs))) : (d == sysModules) = false ∧ h.get? d = some o ∧ o.ExactDict ∧ ∃ (es : Array DictEntry) (n : Nat), o.data = .dict es n ∧ es.size = xs.length ∧
    ∀ (i : Nat) (x : NE), xs[i]? = some x → ∃ en, es[i]? = some en ∧ en.key = .ref x.2.1 := by
  obtain ⟨g, r⟩ := (show ObjOk P w H h d (.frz o (NO w d xs)) from ok d _ e)
  obtain ⟨_, a2, _, _, ob, es, n, e1, e2, e3, e4⟩ := r.1
  rw [g] at e1
  cases e1
  refine ⟨a2, g, e2, es, n, e3, by rw [← Array.length_toList, e4, List.length_map], fun i x hx => ⟨⟨x.1.hash w, .ref x.2.1, toV x.2.2⟩, ?_, rfl⟩⟩
  rw [← Array.getElem?_toList, e4, List.getElem?_map, hx]
  rfl
theorem turn_nkeys {P : Program} {w : World} {K : PySem.W.Frag} {tg : Expr} {d : Addr} {o : Obj} {es : Array DictEntry} {n : Nat} {xs : List NE} (it : Addr) (hod : o.data = .dict es n) : Turn P w K tg (ItNk w d o xs) [it] it (fun i h => h.IsKeyIter it d i xs.length n) where
  mem := by simp
  obj := fun i h hst b hb => by
    obtain rfl : b = it := by simpa using hb
    obtain ⟨oi, e, _, dd⟩ := hst
    exact ⟨oi, e, fun v z => by rw [dd] at z; cases z⟩
  keep := fun i h h' hst k => hst.at fun oi e => k it (by simp) oi e
  item := by
    intro X hP hw hK hc i pn st sg Hh E Iv hf hst hg
    subst hP hw hK
    obtain ⟨hd, hi⟩ := hg
    obtain ⟨f0, f1, _, f3, f4, f5⟩ := hf it (by simp)
    obtain ⟨_, hgd, _, es', n', hdt, hsz, ent⟩ := frz_raw Iv.hok hd
    obtain ⟨rfl, rfl⟩ := dict_ep hod hdt
    have hx : xs[i]? = some xs[i] := List.getElem?_eq_getElem hi
    obtain ⟨en, hen, hkey⟩ := ent i _ hx
    refine next_key_item hst hgd hdt hsz hen fun h' hst' sb => ?_
    have I1 : Inv X pn sg Hh { st with heap := h' } := Iv.turned (t' := st.toks) (fun b ob hb e => (sb.2 b hb).trans e) f0 f1 f3 f4 f5
    obtain ⟨oi, e, c, dd⟩ := id hst'
    exact ⟨en.key, rfl, go_of (s := { st with heap := h' }) e c dd (by decide) ⟨.ref xs[i].2.1, Hh, I1, hkey, ⟨rfl, _, hx, rfl⟩, hst', fun b hb => (hf b hb).1⟩⟩
  done := by
    intro X hP hw hK hc i pn st sg Hh E Iv hf hst hg
    subst hP hw hK
    obtain ⟨hd, hi⟩ := hg
    obtain ⟨f0, f1, _, f3, f4, f5⟩ := hf it (by simp)
    obtain ⟨_, hgd, _, es', n', hdt, hsz, _⟩ := frz_raw Iv.hok hd
    obtain ⟨rfl, rfl⟩ := dict_ep hod hdt
    exact next_key_end (Iv.ok.hd hc) hst hgd hdt hsz hi fun h' eb => ⟨rfl, Iv.turned (t' := st.toks) (fun b ob hb e => eb b ob hb e) f0 f1 f3 f4 f5⟩
  self := fun A i st Q E hst h => wpAny_pyIter_keyiter hst h
def iNKeys (w : World) (td : TE) : TI := fun σ H R => td σ H fun x H1 => ∃ (d : Addr) (o : Obj) (xs : List NE), x = .ref d ∧ H1 d = some (.frz o (NO w d xs)) ∧ R (ItNk w d o xs) H1
theorem pi_nkeys {X : Cx} {tg e : Expr} {td : TE} (he : PE X e td) : PI X tg e (iNKeys X.w td) := by
  refine ⟨fun pn st sg Hh R Iv hw => ?_⟩
  refine thn (he.run pn st sg Hh _ Iv hw) fun u s1 ⟨x, H1, I1, rx, d, o, xs, ex, hd, q⟩ => ?_
  subst ex
  obtain rfl : u = Value.ref d := rx
  obtain ⟨hs, hgd, hx, es, n, hdt, hsz, _⟩ := frz_raw I1.hok hd
  refine iter_keys hs hgd hx hdt (pi_one (tk := s1.toks) I1 _ (turn_nkeys _ hdt) ⟨_, Heap.get?_push_size _ rfl, rfl, ?_⟩ q)
  rw [hsz] <;> rfl
theorem walk_nkeys {w : World} {d : Addr} {o : Obj} {xs : List NE} : Walk (ItNk w d o xs) xs.length (fun H => H d = some (.frz o (NO w d xs))) (fun i H x H' => H' = H ∧ ∃ e : NE, xs[i]? = some e ∧ x = .ref e.2.1) :=
  ⟨fun _ _ hi q => ⟨q, hi⟩, fun _ q => ⟨q, Nat.le_refl _⟩, fun _ _ _ _ _ _ y => y⟩
/-! {k: v for ..}, its keys nested tuples -/
theorem nd_dictSet {X : Cx} {pn : List (Addr × Obj)} {sg : St} {Hh : Hp} {st : Shared} {E : Value → Shared → Prop} {D b : Addr} {xs : List NE} {k : NestedKey} {v : V} {u r : Value} {Qq : Unit → Shared → Prop} (hu : X.A.units + 64 < cLine) (Iv : Inv X pn sg Hh st) (hD : Hh D = some (NO X.w D xs)) (ks : NKeys Hh xs)
    (hz : xs.length < sizeLine) (hk : NK Hh k (.ref b)) (hd : k.depth ≤ 8) (ru : u = .ref b) (fx : Fix v) (rv : RelV v r) (h : ∀ s', Inv X pn sg (upd Hh D (NO X.w D (putN xs k b v))) s' → Qq () s') : wpAny (model X.prog X.w) X.A (dictSet D u r) Qq E st := by
  subst ru
  obtain rfl := fx.val rv
  refine wpAny_dictSet_heap (knd := nestedKind X.prog X.w) (hsz := by rw [List.length_map]; omega) (show X.A.units + 8 < cLine by omega) ⟨NK.is Iv.hok _ _ _ hk rfl, hd⟩ (raw_dict Iv.hok (no_raw Iv.hok (.inl hD)) ks) fun h' dd sb => ?_
  exact h _ (nd_put Iv hD ks hz fx dd sb)
def tNc (w : World) (wi : TI) (g : TG) (tt : TT) (tk tv : TE) (vs : List Nat) : TE := fun sg Hh Qq => wi sg Hh fun J H1 => ∀ D, H1 D = none → ∃ W : Nat → Nat → Hp → Prop, (∃ m, W 0 m (upd H1 D (NO w D []))) ∧ ∀ i m H, W i m H →
  (J.stop i H ∧ Qq (.ref D) H) ∨ (J.go i H ∧ ∃ Nx : Hp → Prop, (∀ H', Nx H' → ∃ m', m' < m ∧ W (i + 1) m' H') ∧ ∀ x H', J.yld i H x H' → g x (wipe sg vs) H' fun s2 H2 => wipe s2 vs = wipe sg vs ∧ tt s2 H2 fun c H3 =>
    if c = true then tk s2 H3 fun y H4 => tv s2 H4 fun z H5 => ∃ (b : Addr) (xs : List NE) (k : NestedKey), y = .ref b ∧ H5 D = some (NO w D xs) ∧ NKeys H5 xs ∧ NK H5 k (.ref b) ∧ k.depth ≤ 8 ∧ Fix z ∧ xs.length < sizeLine ∧ Nx (upd H5 D (NO w D (putN xs k b z))) else Nx H3)
section
variable {X : Cx}
theorem nc_core {pn : List (Addr × Obj)} {st : Shared} {sg : St} {Hh : Hp} {Qq : VK} {kx vx tg itx : Expr} {ifs : List Expr} {scp : Scope} {mine : List (Str × Nat)} {pos pos' : Pos} {wi : TI} {g : TG} {tt : TT} {tk tv : TE} {use : Option (Value → Sem Unit)} {Qf : Value → Shared → Prop}
    (hu : X.A.units + 64 < cLine) (calm : X.calm = true) (nd : X.N.Nodup) (Iv : Inv X pn sg Hh st) (hi : PI X tg itx wi) (bo : BlkOk X.N X.env.scope scp mine)
    (pg0 : ∀ (z : Shared) (H : Hp) (C : Addr) (cl : List (Str × Addr)) (fp : List Addr), PG (X.blk z H scp (compEnvC scp cl C X.env) fp) tg g) (pt0 : ∀ (z : Shared) (H : Hp) (C : Addr) (cl : List (Str × Addr)) (fp : List Addr), PTs (X.blk z H scp (compEnvC scp cl C X.env) fp) ifs tt)
    (pk0 : ∀ (z : Shared) (H : Hp) (C : Addr) (cl : List (Str × Addr)) (fp : List Addr), PE (X.blk z H scp (compEnvC scp cl C X.env) fp) kx tk)
    (pv0 : ∀ (z : Shared) (H : Hp) (C : Addr) (cl : List (Str × Addr)) (fp : List Addr), PE (X.blk z H scp (compEnvC scp cl C X.env) fp) vx tv) (fs : ∀ x, foldedSetIterable itx X.env x = pure x)
    (hw : tNc X.w wi g tt tk tv (mine.map (·.2)) sg Hh Qq)
    (after : ∀ D C z m H', Inv X pn sg H' z → Qq (.ref D) H' → z.heap.Ns C m → FpOk X pn H' C → compPost (model X.prog X.w) X.A X.xe use Qf (.ref D) C (.ok .next) z) :
    wpAny (model X.prog X.w) X.A (comprehension (.DictComp kx vx [⟨tg, itx, ifs, 0⟩] scp pos) scp X.env pos' newDict false (eval itx X.env) use) Qf X.xe st := by
  have frees : ∀ y ∈ scp.names, y.2 = .free → ∃ c, X.env.cells.lookup y.1 = some c := fun y hy e => (bo.free y hy e).elim (fun z => Iv.ok.has _ (.inl z)) fun z => Iv.ok.has _ (.inr z)
  refine wpAny_comprehension_free (use := use) rfl fs (closure_ok frees) bo.kind (fun y hy e => by rw [bo.uniq y hy, e]) (thn (hi.run pn st sg Hh _ Iv hw) fun xv s1 hx => thn hx fun itv s2 h2 => ?_)
  obtain ⟨it, fp, tn, J, H2, e0, I2, T, t2, f2, q⟩ := h2
  subst e0
  refine wpAny_newObj_type (newEnv_comp ?_)
  obtain ⟨D, hD⟩ : ∃ D, D = s2.heap.objs.size := ⟨_, rfl⟩
  have Dn : H2 D = none := I2.hok.fresh (Nat.le_of_eq hD.symm)
  obtain ⟨W, ⟨m0, w0⟩, turn⟩ := q D Dn
  obtain ⟨s3, hs3⟩ : ∃ s3 : Shared, s3 = { s2 with heap := s2.heap.push { cls := .type "dict", data := .dict #[] } } := ⟨_, rfl⟩
  have I3 : Inv X pn sg (upd H2 D (NO X.w D [])) s3 := by
    rw [hs3]
    refine I2.laid (t' := s2.toks) (fun c o e => Heap.get?_push_of_some _ e) (Nat.le_of_eq hD.symm) ?_
    rw [hD]
    exact (raw_new X.w s2.heap I2.big).ok
  have hh3 : s3.heap = s2.heap.push { cls := .type "dict", data := .dict #[] } := by rw [hs3]
  have f3 : ∀ c ∈ fp, FpOk X pn (upd H2 D (NO X.w D [])) c ∧ c < s3.heap.objs.size := fun c hc => by
    obtain ⟨o, e, _⟩ := T.obj _ _ t2 c hc
    have lt : c < s2.heap.objs.size := Heap.lt_size e
    refine ⟨⟨?_, (f2 c hc).2⟩, by rw [hh3, Heap.size_push]; exact Nat.lt_succ_of_lt lt⟩
    rw [upd_ne (by rw [hD]; exact Nat.ne_of_lt lt)]
    exact (f2 c hc).1
  have t3 : tn 0 s3.heap := T.keep _ _ _ t2 fun c _ o e => by rw [hh3]; exact Heap.get?_push_of_some _ e
  have I4 := block_start I3 bo nd f3
  rw [← hD, ← hs3]
  show codeAny _ _ (.compStart (.DictComp kx vx [⟨tg, itx, ifs, 0⟩] scp pos) 0 (.ref it) (.ref D) (compEnvC scp (cellsFrom (s3.heap.objs.size + 1) scp.names (cloFrom X.env.cells scp.names [])) s3.heap.objs.size X.env)) (compPost (model X.prog X.w) X.A X.xe use Qf (.ref D) s3.heap.objs.size) { s3 with heap := pushCells (s3.heap.push { cls := .type "dict", data := .dict #[] }) scp.names }
  obtain ⟨cl, hcl⟩ : ∃ cl, cl = cellsFrom (s3.heap.objs.size + 1) scp.names (cloFrom X.env.cells scp.names []) := ⟨_, rfl⟩
  rw [← hcl] at I4 ⊢
  obtain ⟨ce, hce⟩ : ∃ ce, ce = compEnvC scp cl s3.heap.objs.size X.env := ⟨_, rfl⟩
  obtain ⟨H3, hH3⟩ : ∃ H3, H3 = upd H2 D (NO X.w D []) := ⟨_, rfl⟩
  have pg := pg0 s3 H3 s3.heap.objs.size cl fp
  have pt := pt0 s3 H3 s3.heap.objs.size cl fp
  have pk := pk0 s3 H3 s3.heap.objs.size cl fp
  have pv := pv0 s3 H3 s3.heap.objs.size cl fp
  rw [← hH3] at I3 I4 w0 f3
  rw [← hce] at I4 pg pt pk pv ⊢
  have cL : ce.locals = s3.heap.objs.size := by rw [hce]; rfl
  obtain ⟨s4, hs4⟩ : ∃ s4 : Shared, s4 = { s3 with heap := pushCells (s3.heap.push { cls := .type "dict", data := .dict #[] }) scp.names } := ⟨_, rfl⟩
  rw [← hs4] at I4 ⊢
  have t4 : tn 0 s4.heap := T.keep _ _ _ t3 fun c _ o e => by rw [hs4]; exact pushCells_keeps _ _ _ _ (Heap.get?_push_of_some _ e)
  have foot : ∀ {sg' : St} {H' : Hp} {z : Shared}, Inv (X.blk s3 H3 scp ce fp) [] sg' H' z → (∀ c ∈ fp, H' c = none) → ∀ c ∈ fp, FpOk (X.blk s3 H3 scp ce fp) [] H' c := fun I' hn c hc =>
    ⟨hn c hc, (I'.ok.exf c hc).1, I'.ok.exfs c hc, .inl hc, fun x y e => (I'.ok.exf c hc).2 x y e, fun p hp => absurd (show p ∈ ([] : List (Addr × Obj)) ++ [] from hp) (by simp)⟩
  refine codeAny_compStart_dict ?loop (T.self X.A 0 _ _ _ t4 ?loop)
  refine compLoop_anyD (fun m z => ∃ i H', Inv (X.blk s3 H3 scp ce fp) [] (wipe sg (mine.map (·.2))) H' z ∧ tn i z.heap ∧ (∀ c ∈ fp, H' c = none) ∧ W i m H') ?_ m0 ⟨0, H3, I4, t4, fun c hc => (f3 c hc).1.1, w0⟩
  rintro m s5 ⟨i, H5, I5, t5, n5, w5⟩
  rcases turn i m H5 w5 with ⟨stop, qq⟩ | ⟨go, Nx, hNx, step⟩
  · refine thnF (T.done (X.blk s3 H3 scp ce fp) rfl rfl rfl calm i [] s5 _ H5 (fun _ _ => False) I5 (foot I5 n5) t5 stop) fun r s6 ⟨hr, I6⟩ => ?_
    subst hr
    have I7 : Inv X pn sg H5 s6 := I3.call' (ch := fp) I6.os I6.base I6.hok I6.bare fun c hc => ⟨(f3 c hc).1.2.2.2.1, (f3 c hc).1.2.1, (f3 c hc).1.2.2.2.2.1, (f3 c hc).1.2.2.2.2.2⟩
    have nC : H5 s3.heap.objs.size = none := by rw [← cL]; exact I6.free
    obtain ⟨mm, hn, _⟩ := I6.loc
    replace hn : s6.heap.Ns ce.locals mm := hn
    rw [cL] at hn
    exact after D s3.heap.objs.size s6 mm H5 I7 qq hn (I3.fpOk (Nat.le_refl _) nC)
  · refine thnF (T.item (X.blk s3 H3 scp ce fp) rfl rfl rfl calm i [] s5 _ H5 (fun _ _ => False) I5 (foot I5 n5) t5 go) fun r s6 ⟨u, hr, h6⟩ => ?_
    subst hr
    refine thnF h6 fun _ s7 ⟨x, H7, I7, r7, y7, t7, n7⟩ => ?_
    refine thnF (pg.run _ s7 _ H7 x u _ (I7.pinned (foot I7 n7) (T.obj _ _ t7)) r7 (step x H7 y7)) fun _ s8 ⟨sg8, H8, I8, w8, q8⟩ => ?_
    refine thnF (pt.run _ s8 sg8 H8 _ I8 q8) fun c s9 ⟨H9, I9, q9⟩ => ?_
    have fin : ∀ {z : Shared} {H' : Hp}, Inv (X.blk s3 H3 scp ce fp) ([] ++ pinsAt fp s7.heap) sg8 H' z → Nx H' → ∃ m', m' < m ∧ ∃ i H', Inv (X.blk s3 H3 scp ce fp) [] (wipe sg (mine.map (·.2))) H' z ∧ tn i z.heap ∧ (∀ c ∈ fp, H' c = none) ∧ W i m' H' := fun {z H'} I' nx => by
      obtain ⟨m', lt, w'⟩ := hNx H' nx
      have pin' : ∀ c ∈ fp, ∀ o, s7.heap.get? c = some o → z.heap.get? c = some o ∧ H' c = none := fun c hc o e => by
        have zz := I'.pin (c, o) (List.mem_append_right _ (List.mem_append_right _ (mem_pinsAt hc e)))
        exact ⟨zz.1, zz.2.1⟩
      have hl : (wipe sg (mine.map (·.2))).length = sg8.length := by rw [← w8, wipe_length]
      refine ⟨m', lt, i + 1, H', (I'.unpinned (pins := [])).weak hl (fun j v e => by rw [← w8] at e; exact (wipe_some e).1), T.keep _ _ _ t7 fun c hc o e => (pin' c hc o e).1, fun c hc => ?_, w'⟩
      obtain ⟨o, e, _⟩ := T.obj _ _ t7 c hc
      exact (pin' c hc o e).2
    cases c with
    | false =>
      rw [if_neg Bool.false_ne_true] at q9 ⊢
      exact fin I9 q9
    | true =>
      rw [if_pos rfl] at q9 ⊢
      refine thnF (pk.run _ s9 sg8 H9 _ I9 q9) fun z1 s10 ⟨yk, H10, I10, r10, q10⟩ => thnF (pv.run _ s10 sg8 H10 _ I10 q10) fun z2 s11 ⟨yv, H11, I11, r11, b, xs, k, ek, hD11, ks, hk, hd, fx, hz, nx⟩ => ?_
      subst ek
      exact nd_dictSet (X := X.blk s3 H3 scp ce fp) hu I11 hD11 ks hz hk hd r10 fx r11 fun s12 I12 => fin I12 nx
theorem ps_setNc {i : Nat} {y : Str} {py : Pos} {kx vx tg itx : Expr} {ifs : List Expr} {scp : Scope} {mine : List (Str × Nat)} {pos spos : Pos} {wi : TI} {g : TG} {tt : TT} {tk tv : TE} (hu : X.A.units + 64 < cLine) (calm : X.calm = true) (nd : X.N.Nodup) (hy : X.N[i]? = some y) (hyl : X.env.scope.names.lookup y = some .local)
    (sw : swapsWith (.DictComp kx vx [⟨tg, itx, ifs, 0⟩] scp pos) (some (.Name y py)) spos.line X.env = pure true) (hi : PI X tg itx wi) (bo : BlkOk X.N X.env.scope scp mine)
    (pg0 : ∀ (z : Shared) (H : Hp) (C : Addr) (cl : List (Str × Addr)) (fp : List Addr), PG (X.blk z H scp (compEnvC scp cl C X.env) fp) tg g) (pt0 : ∀ (z : Shared) (H : Hp) (C : Addr) (cl : List (Str × Addr)) (fp : List Addr), PTs (X.blk z H scp (compEnvC scp cl C X.env) fp) ifs tt)
    (pk0 : ∀ (z : Shared) (H : Hp) (C : Addr) (cl : List (Str × Addr)) (fp : List Addr), PE (X.blk z H scp (compEnvC scp cl C X.env) fp) kx tk)
    (pv0 : ∀ (z : Shared) (H : Hp) (C : Addr) (cl : List (Str × Addr)) (fp : List Addr), PE (X.blk z H scp (compEnvC scp cl C X.env) fp) vx tv) (fs : ∀ x, foldedSetIterable itx X.env x = pure x := by intro _; rfl) :
    PS X (.Assign [.Name y py] (.DictComp kx vx [⟨tg, itx, ifs, 0⟩] scp pos) spos) (tAsg (tNc X.w wi g tt tk tv (mine.map (·.2))) (gName i)) := by
  refine ⟨fun pn st sg Hh D Iv hw => ?_⟩
  rw [exec_Assign_Name_used _ _ _ _ sw]
  refine wpAny_bind (wpAny_standAt (wpAny_bind ?_))
  show wpAny _ X.A (do let _ ← comprehension (.DictComp kx vx [⟨tg, itx, ifs, 0⟩] scp pos) scp X.env (firstIterPos [⟨tg, itx, ifs, 0⟩] pos) newDict false (eval itx X.env) (some (assign (.Name y py) X.env))) _ _ st
  refine wpAny_bind (thn (nc_core (Qf := fun _ z => SP X pn D .next z) (Qq := fun x H1 => gName i x sg H1 D.nx) hu calm nd Iv hi bo pg0 pt0 pk0 pv0 fs hw fun L C z m H' I' q hn f => ?_) fun _ z hq => wpAny_pure (wpAny_pure hq))
  show wpAny _ _ (assign (.Name y py) X.env (.ref L)) _ _ _
  refine wpAny_assign_Name (store_ok2 (v := V.ref L) I' nd hy (.inl hyl) rfl (fun s2 I2 ⟨a, sb, ha⟩ => ?_) (.inr hyl))
  obtain ⟨f0, f1, f2, f3, f4, f5⟩ := f
  have off : C ≠ a := ha.elim (fun z => by rw [z]; exact f1) fun z e => f4 y a z e.symm
  exact ⟨m, hn.sameBut sb off, fun h3 sb3 => ⟨_, H', I2.turned (t' := s2.toks) (fun c o hb e => (sb3.2 c hb).trans e) f0 f1 f3 f4 f5, q⟩⟩
theorem pe_nc {kx vx tg itx : Expr} {ifs : List Expr} {scp : Scope} {mine : List (Str × Nat)} {pos : Pos} {wi : TI} {g : TG} {tt : TT} {tk tv : TE} (hu : X.A.units + 64 < cLine) (calm : X.calm = true) (nd : X.N.Nodup) (hi : PI X tg itx wi) (bo : BlkOk X.N X.env.scope scp mine)
    (pg0 : ∀ (z : Shared) (H : Hp) (C : Addr) (cl : List (Str × Addr)) (fp : List Addr), PG (X.blk z H scp (compEnvC scp cl C X.env) fp) tg g) (pt0 : ∀ (z : Shared) (H : Hp) (C : Addr) (cl : List (Str × Addr)) (fp : List Addr), PTs (X.blk z H scp (compEnvC scp cl C X.env) fp) ifs tt)
    (pk0 : ∀ (z : Shared) (H : Hp) (C : Addr) (cl : List (Str × Addr)) (fp : List Addr), PE (X.blk z H scp (compEnvC scp cl C X.env) fp) kx tk)
    (pv0 : ∀ (z : Shared) (H : Hp) (C : Addr) (cl : List (Str × Addr)) (fp : List Addr), PE (X.blk z H scp (compEnvC scp cl C X.env) fp) vx tv) (fs : ∀ x, foldedSetIterable itx X.env x = pure x := by intro _; rfl) :
    PE X (.DictComp kx vx [⟨tg, itx, ifs, 0⟩] scp pos) (tNc X.w wi g tt tk tv (mine.map (·.2))) := by
  refine ⟨fun pn st sg Hh Qq Iv hw => ?_⟩
  rw [arm_eval_DictComp]
  refine nc_core hu calm nd Iv hi bo pg0 pt0 pk0 pv0 fs hw fun D C z m H' I' q hn f => ⟨m, hn, fun h'' sb => ?_⟩
  exact ⟨.ref D, H', I'.turned (t' := z.toks) (fun c o hb e => (sb.2 c hb).trans e) f.1 f.2.1 f.2.2.2.1 f.2.2.2.2.1 f.2.2.2.2.2, rfl, q⟩
end
/-- such a comprehension over a walk -/
theorem nc_it {w : World} {J : It} {n : Nat} {G : Hp → Prop} {Y : Nat → Hp → V → Hp → Prop} (wk : Walk J n G Y) {g : TG} {tt : TT} {tk tv : TE} {vs : List Nat} {sg : St} {H1 : Hp} {D : Addr} {Qd : Hp → Prop} (Pv : Nat → Hp → Prop) (h0 : Pv 0 (upd H1 D (NO w D []))) (hG : ∀ i H, i ≤ n → Pv i H → G H)
    (hs : ∀ i x H H', i < n → Pv i H → Y i H x H' → g x (wipe sg vs) H' fun s2 H2 => wipe s2 vs = wipe sg vs ∧ tt s2 H2 fun c H3 =>
      if c = true then tk s2 H3 fun y H4 => tv s2 H4 fun z H5 => ∃ (b : Addr) (xs : List NE) (k : NestedKey), y = .ref b ∧ H5 D = some (NO w D xs) ∧ NKeys H5 xs ∧ NK H5 k (.ref b) ∧ k.depth ≤ 8 ∧ Fix z ∧ xs.length < sizeLine ∧ Pv (i + 1) (upd H5 D (NO w D (putN xs k b z))) else Pv (i + 1) H3) (hd : ∀ H, Pv n H → Qd H) :
    ∃ W : Nat → Nat → Hp → Prop, (∃ m, W 0 m (upd H1 D (NO w D []))) ∧ ∀ i m H, W i m H →
      (J.stop i H ∧ Qd H) ∨ (J.go i H ∧ ∃ Nx : Hp → Prop, (∀ H', Nx H' → ∃ m', m' < m ∧ W (i + 1) m' H') ∧ ∀ x H', J.yld i H x H' → g x (wipe sg vs) H' fun s2 H2 => wipe s2 vs = wipe sg vs ∧ tt s2 H2 fun c H3 =>
        if c = true then tk s2 H3 fun y H4 => tv s2 H4 fun z H5 => ∃ (b : Addr) (xs : List NE) (k : NestedKey), y = .ref b ∧ H5 D = some (NO w D xs) ∧ NKeys H5 xs ∧ NK H5 k (.ref b) ∧ k.depth ≤ 8 ∧ Fix z ∧ xs.length < sizeLine ∧ Nx (upd H5 D (NO w D (putN xs k b z))) else Nx H3) := by
  refine ⟨fun i m H => m = n - i ∧ i ≤ n ∧ Pv i H, ⟨n, by simp, Nat.zero_le _, h0⟩, ?_⟩
  rintro i m H ⟨rfl, hi, p⟩
  by_cases hlt : i < n
  · exact .inr ⟨wk.goes i H hlt (hG i H hi p), Pv (i + 1), fun H' p' => ⟨n - (i + 1), by omega, rfl, hlt, p'⟩, fun x H' y => hs i x H H' hlt p (wk.yields i H x H' hlt (hG i H hi p) y)⟩
  · obtain rfl : i = n := by omega
    exact .inl ⟨wk.stops H (hG i H hi p), hd H p⟩
/-! o.m(e, .., k = v, ..) -/
def tMethK (C : Addr) (m : Str) (n l : Nat) (sp : Sp) (gV : List V → List V → List V) (E : XK) (ta : TE) (t tk : TA) : TE := fun sg Hh Qq => ta sg Hh fun x H1 => ∃ a dx fs, x = .ref a ∧ H1 a = some (.ins C dx fs) ∧ fs.lookup m = none ∧
  t sg H1 fun vs H2 => tk sg H2 fun zs H3 => vs.length + 1 = n ∧ zs.length = l ∧ sp (gV (x :: vs) zs) H3 Qq E
theorem pe_methK {X : Cx} {CX : CXT} {k n : Nat} {f C : Addr} {fd : FuncData} {ps ks : List Str} {sp : Sp} {E : XK} {m : Str} {o e : Expr} {es : List Expr} {kws : List Keyword} {pos apos : Pos} {ta : TE} {t tk : TA} {g : List Value → List Value → List Value} {gV : List V → List V → List V} {pl : Sem Bool} (he : PE X o ta) (c : Cls X.K C) (hm : Meth X.K C m f)
    (F : FnOk X.prog X.w X.K X.mg X.base CX k f fd ps sp) (hr : Room k X.A) (hb : KBn X.K fd ps n ks g gV) (hx : Passes CX X E) (ha : PA X (e :: es) t) (hkw : PK X kws tk)
    (hall : (backToKw pos (keywordEach kws X.env)).all (·.1.isSome) = true := by rfl) (hks : (backToKw pos (keywordEach kws X.env)).filterMap (·.1) = ks := by rfl) (hst : starEach (e :: es) X.env = (false, eval e X.env) :: starEach es X.env := by rfl)
    (hpl : ((backTo pos (starEach (e :: es) X.env)).any (·.1) || (backToKw pos (keywordEach kws X.env)).any (·.1.isNone)) = false := by rfl)
    (ht : eval (.Call (.Attribute o m apos) (e :: es) kws pos) X.env = (do
      let ov ← eval o X.env
      standAt apos.atName
      let (f, first) ← holding [ov] (getMethod ov m pl)
      callWith pos f first (backTo pos (starEach (e :: es) X.env)) (backToKw pos (keywordEach kws X.env))) := by rfl) :
    PE X (.Call (.Attribute o m apos) (e :: es) kws pos) (tMethK C m n ks.length sp gV E ta t tk) := by
  refine ⟨fun pn st sg Hh Qq Iv hw => ?_⟩
  refine PySem.W.methodCall_KW (pl := pl) (thn (he.run pn st sg Hh _ Iv hw) fun u s1 ⟨x, H1, I1, rx, a, dx, fs, ex, ea, l, q⟩ => ?_) ht
  subst ex
  obtain rfl : u = Value.ref a := rx
  refine getmeth_ok I1 ea c hm l ?_
  refine PySem.W.callWith_KW (first := [.ref a]) (h₀ := X.base) I1.ok.mod.kin hm.kp hall (thn (ha.run pos pn s1 sg H1 _ I1 q) fun us s2 ⟨vs, H2, I2, r, q2⟩ => ?_) hpl hst
  refine thn (hkw.run pos pn s2 sg H2 _ I2 q2) fun ws s3 ⟨zs, H3, I3, rz, l1, l2, q3⟩ => ⟨I3.kIn, ?_⟩
  rw [hks]
  exact run_fnN (us := .ref a :: us) (vs := .ref a :: vs) F hr hb hx I3 (.cons rfl r) rz (by rw [List.length_cons]; exact l1) l2 q3
end L2
/-! for k, v in d.items(), its keys nested tuples -/
namespace L2
open PySem PySem.W PySem.Calls PyProof.Rows PyProof.V PySem.Spec
def Itni (w : World) (d : Addr) (o : Obj) (xs : List NE) : It :=
  ⟨fun i H => H d = some (.frz o (NO w d xs)) ∧ i < xs.length, fun i H x H' => ∃ (t : Addr) (e : NE), xs[i]? = some e ∧ x = .ref t ∧ H t = none ∧ H' = upd H t (.tup [.ref e.2.1, e.2.2]), fun i H => H d = some (.frz o (NO w d xs)) ∧ xs.length ≤ i⟩
theorem frz_rawI {P : Program} {w : World} {H : Hp} {h : Heap} {d : Addr} {o : Obj} {xs : List NE} (ok : HOk P w H h) (e : H d = some (.frz o (NO w d xs))) : (d == sysModules) = false ∧ ∃ (es : Array DictEntry) (n : Nat), o.data = .dict es n ∧ es.size = xs.length ∧ DT.Raw h d es n ∧
    ∀ (i : Nat) (x : NE), xs[i]? = some x → Fix x.2.2 ∧ ∃ en, es[i]? = some en ∧ en.key = .ref x.2.1 ∧ en.val = toV x.2.2 := by
  obtain ⟨g, r⟩ := (show ObjOk P w H h d (.frz o (NO w d xs)) from ok d _ e)
  obtain ⟨_, a2, _, a4, ob, es, n, e1, e2, e3, e4⟩ := r.1
  rw [g] at e1
  cases e1
  refine ⟨a2, es, n, e3, by rw [← Array.length_toList, e4, List.length_map], ⟨o, g, e2, e3⟩, fun i x hx => ⟨a4 x (List.mem_of_getElem? hx), ⟨x.1.hash w, .ref x.2.1, toV x.2.2⟩, ?_, rfl, rfl⟩⟩
  rw [← Array.getElem?_toList, e4, List.getElem?_map, hx]
  rfl
theorem turn_nitems {P : Program} {w : World} {K : PySem.W.Frag} {elts : List Expr} {kk : Nat} {tpos : Pos} {d : Addr} {o : Obj} {es : Array DictEntry} {n : Nat} {xs : List NE} (it : Addr) (hod : o.data = .dict es n) :
    Turn P w K (.Tuple elts kk tpos) (Itni w d o xs) [it] it (fun i h => ∃ ok ov, IsItemIter h it d i es.size n ok ov) where
  mem := by simp
  obj := fun i h hst b hb => by
    obtain rfl : b = it := by simpa using hb
    obtain ⟨ok, ov, e⟩ := hst
    exact ⟨_, e, fun v z => nomatch z⟩
  keep := fun i h h' hst k => let ⟨ok, ov, e⟩ := hst; ⟨ok, ov, k it (by simp) _ e⟩
  item := by
    intro X hP hw hK hc i pn st sg Hh E Iv hf hst hg
    subst hP hw hK
    obtain ⟨hd, hi⟩ := hg
    obtain ⟨_, es', n', hdt, hsz, raw, ent⟩ := frz_rawI Iv.hok hd
    obtain ⟨rfl, rfl⟩ := dict_ep hod hdt
    have hx : xs[i]? = some xs[i] := List.getElem?_eq_getElem hi
    obtain ⟨fx, en, hen, hkey, hval⟩ := ent i _ hx
    obtain ⟨ok, ov, he⟩ := hst
    have hie : i < es'.size := by rw [hsz]; exact hi
    have hee : es'[i] = en := Option.some.inj ((Array.getElem?_eq_getElem hie).symm.trans hen)
    have hlt : it < st.heap.objs.size := Heap.lt_size he
    refine DT.nextI he raw hie fun h' ho hT hz hk => ?_
    rw [hee] at ho hT
    refine ⟨_, rfl, wpAny_letOwnedTupleGo_items (s := { st with heap := h' }) ho fun h'' he' sb => ?_⟩
    have hT2 : h''.get? st.heap.objs.size = some { cls := .type "tuple", data := .seq #[en.key, en.val] } := (sb.2 _ (Nat.ne_of_gt hlt)).trans hT
    have new : ObjOk X.prog X.w (upd Hh st.heap.objs.size (.tup [.ref xs[i].2.1, xs[i].2.2])) h'' st.heap.objs.size (.tup [.ref xs[i].2.1, xs[i].2.2]) :=
      ⟨by show 2 ≤ sizeLine; decide, [en.key, en.val], .cons (by rw [hkey]; rfl) (.cons (by rw [hval]; exact fx.rel) .nil), ⟨_, hT2, rfl, _, rfl⟩⟩
    have I1 : Inv X pn sg (upd Hh st.heap.objs.size (.tup [.ref xs[i].2.1, xs[i].2.2])) { st with heap := h'' } :=
      Iv.turnedNew (t' := st.toks) (ch := [it]) (fun b ob hb e => (sb.2 b (by simpa using hb)).trans (hk b ob (by simpa using hb) e)) hf (Nat.le_refl _) new
    refine ⟨.ref st.heap.objs.size, _, I1, rfl, ⟨_, _, hx, rfl, Iv.hok.fresh (Nat.le_refl _), rfl⟩, ⟨_, _, he'⟩, fun b hb => ?_⟩
    have e : b = it := by simpa using hb
    rw [e, upd_ne (Nat.ne_of_lt hlt)]
    exact (hf it (by simp)).1
  done := by
    intro X hP hw hK hc i pn st sg Hh E Iv hf hst hg
    subst hP hw hK
    obtain ⟨hd, hi⟩ := hg
    obtain ⟨f0, f1, _, f3, f4, f5⟩ := hf it (by simp)
    obtain ⟨_, es', n', hdt, hsz, raw, _⟩ := frz_rawI Iv.hok hd
    obtain ⟨rfl, rfl⟩ := dict_ep hod hdt
    obtain ⟨ok, ov, he⟩ := hst
    exact DT.endI (Iv.ok.hd hc) he raw (by rw [hsz]; exact hi) fun h' eb => ⟨rfl, Iv.turned (t' := st.toks) (fun b ob hb e => eb b ob hb e) f0 f1 f3 f4 f5⟩
  self := fun A i st Q E hst h => let ⟨_, _, e⟩ := hst; PySem.W.kcp_self e h
def iNItems (w : World) (td : TE) : TI := fun σ H R => td σ H fun x H1 => ∃ (d : Addr) (o : Obj) (xs : List NE), x = .ref d ∧ H1 d = some (.frz o (NO w d xs)) ∧ R (Itni w d o xs) H1
theorem pi_nitems {X : Cx} {e : Expr} {td : TE} {apos cpos : Pos} {elts : List Expr} {kk : Nat} {tpos : Pos} (he : PE X e td) (hbase : attributeBase e "items" X.env (eval e X.env) = eval e X.env := by rfl) (hline : (apos.endLine == cpos.line) = true := by rfl) :
    PI X (.Tuple elts kk tpos) (.Call (.Attribute e "items" apos) [] [] cpos) (iNItems X.w td) := by
  refine ⟨fun pn st sg Hh R Iv hw => ?_⟩
  refine wpAny_Call_method (T := "dict") (id := "dict.items") hbase rfl hline F.plainAttrs_dict F.slot_dict_items F.type_dict_items (thn (he.run pn st sg Hh _ Iv hw) fun u s1 ⟨x, H1, I1, rx, d, o, xs, ex, hd, q⟩ => ?_)
  subst ex
  obtain rfl : u = Value.ref d := rx
  obtain ⟨hs, es, n, hdt, hsz, raw, _⟩ := frz_rawI I1.hok hd
  obtain ⟨ob, hob, hx, _⟩ := id raw
  refine ⟨raw.typeIs, fun b e => ⟨ob, by cases e; exact hob, hx.2.1⟩, ?_⟩
  have I2 : Inv X pn sg H1 { s1 with heap := s1.heap.push { cls := .type "dict_items", data := .fields #[.ref d] } } := I1.kept (t' := s1.toks) fun b ob q => Heap.get?_push_of_some _ q
  have fin : wpAny (model X.prog X.w) X.A (pyIter (.ref s1.heap.objs.size)) (PIE X pn sg (.Tuple elts kk tpos) R) X.xe { s1 with heap := s1.heap.push { cls := .type "dict_items", data := .fields #[.ref d] } } :=
    DT.iterI (d := d) (es := es) (ep := n) ⟨_, Heap.get?_push_size _ rfl, rfl, rfl⟩ (raw.push _) (pi_one (tk := s1.toks) I2 _ (turn_nitems _ hdt) ⟨.none, .none, Heap.get?_push_size _ rfl⟩ q)
  show wpAny _ _ (callWith cpos (.builtin "dict.items") [.ref d] [] []) _ X.xe s1
  exact method_meetsIn F.slot_dict_items F.entry_dict_items rfl (PySem.evalArgs_none ⟨rfl, raw.typeIs, F.args_dict_items_1 _, _, DT.meetsItems (es := es) (ep := n) hs, raw, fin⟩)
theorem walk_nitems {w : World} {d : Addr} {o : Obj} {xs : List NE} : Walk (Itni w d o xs) xs.length (fun H => H d = some (.frz o (NO w d xs))) (fun i H x H' => ∃ (t : Addr) (e : NE), xs[i]? = some e ∧ x = .ref t ∧ H t = none ∧ H' = upd H t (.tup [.ref e.2.1, e.2.2])) :=
  ⟨fun _ _ hi q => ⟨q, hi⟩, fun _ q => ⟨q, Nat.le_refl _⟩, fun _ _ _ _ _ _ y => y⟩
end L2
/-! sorted(d), d a dict whose keys are whole numbers: a new list of them, in order -/
namespace L2
open PySem PySem.Spec PyProof.Rows
def intOf : Value → Int
  | .int k _ => k
  | _ => 0
theorem each_int {h : Heap} {a : Addr} : ∀ {vs : List Value}, (∀ v ∈ vs, ∃ k t, v = Value.int k t) → PySem.W.EachIs (fun u k => RelV (V.int k) u) vs (vs.map intOf) ∧ PySem.W.EachIs (fun v b => ∃ as, Reads h v (PyData.int b) as ∧ a ∉ as) vs (vs.map intOf)
  | [], _ => ⟨.nil, .nil⟩
  | v :: vs, hv => by
    obtain ⟨k, t, rfl⟩ := hv v (by simp)
    obtain ⟨h1, h2⟩ := each_int (h := h) (a := a) fun u m => hv u (List.mem_cons_of_mem _ m)
    exact ⟨.cons ⟨t, rfl⟩ h1, .cons ⟨[], .int k t, fun m => nomatch m⟩ h2⟩
theorem vals_eachI : ∀ {us : List Value} {ks : List Int}, PySem.W.EachIs (fun u k => RelV (V.int k) u) us ks → Vals (ks.map V.int) us
  | _, _, .nil => .nil
  | _, _, .cons r rr => .cons r (vals_eachI rr)
theorem int_order (l : List Int) : (l.mergeSort (PySem.W.dataLe false PyData.int)).Pairwise (· ≤ ·) := by
  have e := PySem.W.dataLe_int (fun k : Int => k)
  rw [e]
  refine (List.pairwise_mergeSort (fun a b c h1 h2 => ?_) (fun a b => ?_) l).imp fun z => of_decide_eq_true z
  · exact decide_eq_true (Int.le_trans (of_decide_eq_true h1) (of_decide_eq_true h2))
  · rcases Int.le_total a b with z | z
    · rw [decide_eq_true z]; rfl
    · rw [decide_eq_true z, Bool.or_true]
def rSortDk : List V → Hp → VK → Prop := fun vs H Q => ∃ (a : Addr) (kvs : List (Key × V)) (l : List Int), vs = [V.ref a] ∧ H a = some (.dK kvs) ∧ kvs.map (·.1) = l.map Sum.inl ∧ l.length ≤ 1000 ∧
  ∀ (p : Addr) (ks : List Int), H p = none → ks.Perm l → ks.Pairwise (· ≤ ·) → Q (.ref p) (upd H p (.lst (ks.map V.int)))
theorem cr_sortDk {X : Cx} (hc : X.calm = true) (hu : X.A.units + 64 < cLine) : CallR X (.builtin "sorted") rSortDk := by
  intro pins s σ H vs us Q I r h
  obtain ⟨a, kvs, l, rfl, ha, hks, few, q⟩ := h
  rw [Vals.ref1 r]
  obtain ⟨_, lo, ws, rel, dd⟩ := dk_of I.hok ha
  obtain ⟨ep, hat⟩ := dd.dictAt
  have hkeys : ws.map (·.1) = l.map Sum.inl := rel.keys.symm.trans hks
  have wl : ws.length = l.length := by
    have e := congrArg List.length hkeys
    rw [List.length_map, List.length_map] at e
    exact e
  refine Calls.call_function_entry kind_sorted plain_sorted entry_sorted (args_sorted1 _) ?_
  unfold Builtin.«sorted»
  refine wpAny_bind (m := checkCount "sorted" 1 1 _) (wpAny_pure ?_)
  refine wpAny_bind (PySem.W.kdu_collect (A := X.A.in1) (PySem.W.kdl_dict (knd := mixKind X.prog X.w) (kvs := ws) (ep := ep) lo) (I.ok.hd hc) hat (by rw [wl, sizeLine_eq]; omega) fun h' tk acc hk hacc => ?_)
  obtain ⟨vs, hvs0⟩ : ∃ vs, vs = acc.toList := ⟨_, rfl⟩
  have len : vs.length = l.length := by rw [hvs0, Array.length_toList, hacc.1, wl]
  have item : ∀ (j : Nat) (v : Value), vs[j]? = some v → ∃ k t, l[j]? = some k ∧ v = Value.int k t := fun j v e => by
    rw [hvs0] at e
    obtain ⟨k, x, e1, e2⟩ := hacc.2 j v (by rw [← Array.getElem?_toList]; exact e)
    have e3 : (ws.map (·.1))[j]? = some k := by
      rw [List.getElem?_map, e1]
      rfl
    rw [hkeys, List.getElem?_map] at e3
    cases e4 : l[j]? with
    | none => rw [e4] at e3; cases e3
    | some y =>
      rw [e4] at e3
      cases e3
      obtain ⟨t, ev⟩ : RelV (V.int y) v := relV_key (k := Sum.inl y) e2
      exact ⟨y, t, rfl, ev⟩
  have hvs : ∀ v ∈ vs, ∃ k t, v = Value.int k t := fun v mv => by
    obtain ⟨j, hj⟩ := List.mem_iff_getElem?.mp mv
    obtain ⟨k, t, _, z⟩ := item j v hj
    exact ⟨k, t, z⟩
  have pk : vs.map intOf = l := by
    apply List.ext_getElem?
    intro j
    rw [List.getElem?_map]
    cases e : vs[j]? with
    | none => rw [List.getElem?_eq_none (by have := List.getElem?_eq_none_iff.mp e; omega)]; rfl
    | some v =>
      obtain ⟨k, t, z1, rfl⟩ := item j v e
      rw [z1]
      rfl
  have I1 : Inv X pins σ H { s with heap := h', toks := tk } := I.kept hk
  rw [← hvs0]
  refine wpAny_bind (wpAny_newList ?_ (by rw [len, sizeLine_eq]; omega))
  have hoL : (h'.push (seqObj "list" vs.toArray 0)).get? h'.objs.size = some (seqObj "list" vs.toArray 0) := Heap.get?_push_size _ rfl
  obtain ⟨e1, e2⟩ := each_int (h := h'.push (seqObj "list" vs.toArray 0)) (a := h'.objs.size) hvs
  show wpAny _ _ _ _ _ { s with heap := h'.push (seqObj "list" vs.toArray 0), toks := tk }
  refine wpAny_bind (wpAny_holding (PySem.W.list_sort_data (s := { s with heap := h'.push (seqObj "list" vs.toArray 0), toks := tk }) (enc := PyData.int) hoL e1 e2 (PySem.W.AllAlike.of fun _ _ => rfl) (PySem.W.Sortable.others fun _ => ⟨fun z => (nomatch z), fun _ z => (nomatch z)⟩) (by rw [List.length_map, len, sizeLine_eq]; omega) (fun b _ => ?_) fun out hlen eo => ?_))
  · show X.A.units + 1 + 1 + (PyData.int b).depth < cLine
    have : (PyData.int b).depth = 0 := by simp [PyData.depth]
    omega
  rw [pk] at eo
  obtain ⟨c, hcx⟩ := sortedHeap_at (vs := vs) (out := out.toArray) hoL
  have srt := int_order l
  have pp := List.mergeSort_perm l (PySem.W.dataLe false PyData.int)
  generalize l.mergeSort (PySem.W.dataLe false PyData.int) = ks at eo srt pp
  refine wpAny_pure ⟨_, rfl, .ref h'.objs.size, _, I1.laid (t' := tk) (o := .lst (ks.map V.int)) (fun b u e => ?_) (Nat.le_refl _) ⟨by rw [List.length_map, pp.length_eq, sizeLine_eq]; omega, out, c, vals_eachI eo, hcx⟩, rfl, q _ ks (I1.hok.fresh (Nat.le_refl _)) pp srt⟩
  have lt := Heap.lt_size e
  rw [sortedHeap_old (Nat.ne_of_lt lt) (by rw [size_push']; exact Nat.lt_succ_of_lt lt)]
  exact Heap.get?_push_of_some _ e
end L2
/-! a def with one keyword-only parameter that has a default: the calls without it -/
namespace L2
open PySem PySem.Spec PyProof.Rows
theorem kwd_one {K : PySem.W.Frag} {x qual key : Str} {sd : Stmt} {f D T : Addr} {oc doc pm cdv ct : Value} {od an : Option Addr} {osl : Array (Option Value)} {ps : List Str} {n : Nat}
    (l : K.lookup f = some ⟨oc, od, .func (PySem.W.fnOf x qual (defArgs sd) (defBody sd) (defScope sd) .none (.ref D) doc pm an cdv ct), osl⟩) (kw : PySem.W.nsIn K D key = some (some (.ref T))) (hn : n + 1 = ps.length)
    (h : ∀ (us : List Value) (v : Value), us.length = n → KwChain D [(key, v)] (bindArgs (PySem.W.fnOf x qual (defArgs sd) (defBody sd) (defScope sd) .none (.ref D) doc pm an cdv ct) ⟨us, []⟩) (ps.zip (us ++ [v]))) :
    Binds K (PySem.W.fnOf x qual (defArgs sd) (defBody sd) (defScope sd) .none (.ref D) doc pm an cdv ct) ps [.ref T] := by
  intro s us X hlen
  have lu : us.length = n := by
    rw [List.length_append, List.length_singleton] at hlen
    omega
  refine BindsTo.of_looks fun M => KwChain.looks X (fun q m => ?_) (h us (.ref T) lu)
  rw [List.mem_singleton.mp m]
  exact kw
end L2
namespace L2
open PySem PySem.Spec PyProof.Rows
/-- a method with a default, called in a try without it -/
def tMethTd (C : Addr) (m : Str) (sp : Sp) (dvs : List V) (E : St → XK) (ta : TE) (t : TA) : TE := fun sg Hh Qq =>
  ta sg Hh fun x H1 => ∃ a dx fs, x = .ref a ∧ H1 a = some (.ins C dx fs) ∧ fs.lookup m = none ∧ t sg H1 fun vs H2 => sp (x :: (vs ++ dvs)) H2 Qq (E sg)
theorem pe_methTd {X : Cx} {CX : CXT} {k : Nat} {f C : Addr} {fd : FuncData} {ps : List Str} {sp : Sp} {E : St → XK} {m : Str} {pos apos : Pos} {e o : Expr} {es : List Expr} {ta : TE} {t : TA} {dvs : List V} {ds : List Value} {pl : Sem Bool} (he : PE X o ta) (c : Cls X.K C) (hm : Meth X.K C m f)
    (F : FnOk X.prog X.w X.K X.mg X.base CX k f fd ps sp) (hr : Room k X.A) (hb : Binds X.K fd ps ds) (hd : Vals dvs ds) (hx : ∀ sg, PassesAt CX X sg (E sg)) (ha : PA X (e :: es) t)
    (hst : starEach (e :: es) X.env = (false, eval e X.env) :: starEach es X.env := by rfl) (hpl : (backTo pos (starEach es X.env)).any (·.1) = false := by rfl)
    (ht : eval (.Call (.Attribute o m apos) (e :: es) [] pos) X.env = (do
        let ov ← eval o X.env
        standAt apos.atName
        let (g, first) ← holding [ov] (getMethod ov m pl)
        callWith pos g first (backTo pos (starEach (e :: es) X.env)) (backToKw pos (keywordEach [] X.env))) := by rfl) :
    PE X (.Call (.Attribute o m apos) (e :: es) [] pos) (tMethTd C m sp dvs E ta t) := by
  refine ⟨fun pn st sg Hh Qq Iv hw => PySem.W.methodCall_KW (pl := pl) (thn (he.run pn st sg Hh _ Iv hw) ?_) ht⟩
  rintro u s1 ⟨x, H1, I1, rx, a, dx, fs, rfl, ea, l, q⟩
  cases (show u = Value.ref a from rx)
  refine getmeth_ok I1 ea c hm l (PySem.W.callWith_K (first := [.ref a]) (h₀ := X.base) Iv.ok.mod.kin hm.kp ?_ hst hpl)
  refine thn (ha.run pos pn s1 sg H1 _ I1 q) fun us s2 ⟨vs, H2, I2, r, q2⟩ => ⟨I2.kIn, ?_⟩
  exact run_fnSD (us := .ref a :: us) (vs := .ref a :: vs) F hr hb hd (hx sg) I2 (.cons rfl r) q2
end L2
namespace PP
open PySem L2
def top (i : Nat) : Stmt := (PySem.Challenge.pw_paritypool_k30_members).main.body.getD i (.Pass ⟨0, 0, 0, 0⟩)
abbrev s_is_present : Stmt := top 9
abbrev s_sector_at : Stmt := top 10
abbrev s_inverse : Stmt := top 23
abbrev s_weight : Stmt := top 24
abbrev s_weights : Stmt := top 25
abbrev s_check_lengths : Stmt := top 27
abbrev s_piece_at : Stmt := top 28
abbrev s_encode : Stmt := top 29
abbrev s_present_numbers : Stmt := top 30
abbrev s_recover : Stmt := top 31
abbrev s_check_words : Stmt := top 37
abbrev s_is_place : Stmt := top 38
abbrev s_seal : Stmt := top 39
abbrev s_unseal : Stmt := top 40
abbrev s_is_whole : Stmt := top 41
abbrev s_choose_disks : Stmt := top 43
abbrev s_piece_size : Stmt := top 44
abbrev s_data_pieces : Stmt := top 45
abbrev s_piece_requests : Stmt := top 46
abbrev s_write_stripe : Stmt := top 47
abbrev s_good_piece : Stmt := top 48
abbrev s_read_stripe : Stmt := top 49
abbrev s_law_pot : Stmt := top 53
abbrev s_law_next : Stmt := top 54
abbrev s_law_add : Stmt := top 56
abbrev s_law_drop : Stmt := top 57
abbrev s_law_put : Stmt := top 58
abbrev s_law_looks_right : Stmt := top 59
abbrev s_law : Stmt := top 60
abbrev s_Space_init : Stmt := inClass (top 21) 0
abbrev s_Space_take : Stmt := inClass (top 21) 1
abbrev s_Space_give : Stmt := inClass (top 21) 3
abbrev s_Space_settle : Stmt := inClass (top 21) 4
abbrev s_Space_free_count : Stmt := inClass (top 21) 6
abbrev s_Space_used_rows : Stmt := inClass (top 21) 7
abbrev s_Space_waiting_rows : Stmt := inClass (top 21) 8
abbrev s_Store_init : Stmt := inClass (top 51) 0
abbrev s_Store_look : Stmt := inClass (top 51) 1
abbrev s_Store_put : Stmt := inClass (top 51) 3
abbrev s_Store_get : Stmt := inClass (top 51) 4
abbrev s_Store_commit : Stmt := inClass (top 51) 5
abbrev s_Store_forget : Stmt := inClass (top 51) 7
abbrev s_Store_add_member : Stmt := inClass (top 51) 9
abbrev s_Store_drop_member : Stmt := inClass (top 51) 10
abbrev s_Store_free_counts : Stmt := inClass (top 51) 11
/-! small rules of one's own -/
section
variable {X : Cx}
theorem pe_const {x : Str} {v : V} {pos : Pos} (h : ∃ u, X.mg x = some u ∧ RelV v u) (hg : Gl X x := by rfl) (hd : (x == ("__debug__" : Str)) = false := by decide) : PE X (.Name x pos) (tC v) := by
  obtain ⟨u, h1, h2⟩ := h
  exact pe_glob hg h1 h2 hd
/-- isinstance of a caught error, whatever class the clause has caught -/
theorem call_isE' {a : Addr} {cls : Value} {d : Option Addr} {oe : Obj} {pn : List (Addr × Obj)} (hz : Zc cls d oe) (hf : ∃ vs, oe.data = .fields vs) :
    CallR (X.suite a ((a, oe) :: pn)) (.builtin "isinstance") (fun xs H Q => ∃ D, cls = .ref D ∧ d = none ∧ ExcC X.K D ∧ rIsE X.K D a xs H Q) := by
  intro pins s σ H xs us Q I r h
  obtain ⟨D, rfl, rfl, C, h⟩ := h
  exact call_isE C hz hf pins s σ H xs us Q I r h
end
/-- all but p is as it was, what is free too -/
def Only (p : Addr) (H H' : Hp) : Prop := ∀ b, b ≠ p → H' b = H b
theorem Only.upd {p : Addr} {H : Hp} {o : HO} : Only p H (upd H p o) := fun _ h => upd_ne h
theorem Only.refl {p : Addr} {H : Hp} : Only p H H := fun _ _ => rfl
theorem Only.trans {p : Addr} {H H1 H2 : Hp} (x : Only p H H1) (y : Only p H1 H2) : Only p H H2 := fun b h => (y b h).trans (x b h)
/-! which class is asked of a caught error -/
theorem kit_self {K : PySem.W.Frag} {c : Value} : PySem.W.kitOne K c c = some true := by
  unfold PySem.W.kitOne
  rw [if_pos (by simp)]
theorem kit_type {K : PySem.W.Frag} {D : Addr} {n : String} {b : Bool} (m : PySem.W.kitMeta n = true) (h : PySem.W.subIn K (.ref D) (.type n) = some b) : PySem.W.kitOne K (.ref D) (.type n) = some b := by
  unfold PySem.W.kitOne
  rw [if_neg (by intro z; cases (beq_iff_eq.mp z))]
  show (if PySem.W.kitMeta n = true then PySem.W.subIn K (.ref D) (.type n) else none) = some b
  rw [if_pos m]
  exact h
theorem kit_cls_of {K : PySem.W.Frag} {C : Addr} {t : Value} {b : Bool} (hd : PySem.W.hasDictIn K C = true) (ht : PySem.W.typeIn K (.ref C) = some (.type "type")) (h : PySem.W.subIn K t (.ref C) = some b) : PySem.W.kitCls K t (.ref C) = some b := by
  obtain ⟨cd, hc, _⟩ := PySem.W.any_some hd
  show (if ((PySem.W.clsIn K C).isSome && PySem.W.typeIn K (.ref C) == some (.type "type")) = true then PySem.W.subIn K t (.ref C) else none) = some b
  rw [if_pos (by rw [hc, ht]; rfl)]
  exact h
theorem kit_yes {K : PySem.W.Frag} {C D : Addr} (hd : PySem.W.hasDictIn K C = true) (ht : PySem.W.typeIn K (.ref C) = some (.type "type")) (h : PySem.W.subIn K (.ref D) (.ref C) = some true) : PySem.W.kitOne K (.ref D) (.ref C) = some true := by
  unfold PySem.W.kitOne
  split
  · rfl
  · exact kit_cls_of hd ht h
theorem kit_no {K : PySem.W.Frag} {C D : Addr} (hd : PySem.W.hasDictIn K C = true) (ht : PySem.W.typeIn K (.ref C) = some (.type "type")) (h : PySem.W.subIn K (.ref D) (.ref C) = some false) (hs : PySem.W.subIn K (.ref D) (.ref D) = some true) : PySem.W.kitOne K (.ref D) (.ref C) = some false := by
  unfold PySem.W.kitOne
  split
  · rename_i z
    have e : D = C := by
      have := beq_iff_eq.mp z
      injection this
    rw [← e] at h
    rw [h] at hs
    cases hs
  · exact kit_cls_of hd ht h
/-- len of a list or tuple; list of one -/
abbrev rLenS (K : PySem.W.Frag) := Evl.rLenS K
abbrev rListOf (K : PySem.W.Frag) := Evl.rListS K
/-! the prime, the inverse -/
theorem no_div (d : Nat) (h1 : 2 ≤ d) (h2 : d ≤ 255) : ¬ d ∣ 65521 := by
  intro h
  have e : 65521 % d = 0 := Nat.mod_eq_zero_of_dvd h
  have key : ∀ d : Fin 256, 2 ≤ d.val → ¬ 65521 % d.val = 0 := by decide +kernel
  exact key ⟨d, by omega⟩ h1 e
theorem prime_q (d : Nat) (h : d ∣ 65521) : d = 1 ∨ d = 65521 := by
  obtain ⟨e, he⟩ := h
  by_cases a : d ≤ 255
  · by_cases b : 2 ≤ d
    · exact absurd ⟨e, he⟩ (no_div d b a)
    · have : d ≠ 0 := by rintro rfl; omega
      omega
  · by_cases b : 2 ≤ e
    · by_cases c : e ≤ 255
      · exact absurd ⟨d, by rw [Nat.mul_comm]; exact he⟩ (no_div e b c)
      · have h1 : 256 * 256 ≤ d * e := Nat.mul_le_mul (by omega) (by omega)
        omega
    · have : e ≠ 0 := by rintro rfl; omega
      have e1 : e = 1 := by omega
      subst e1
      omega
theorem gcd_q (x : Int) (h : x % 65521 ≠ 0) : Int.gcd 65521 (x % 65521) = 1 := by
  have d1 : (Int.gcd 65521 (x % 65521) : Nat) ∣ 65521 := by
    have := Int.gcd_dvd_left (65521 : Int) (x % 65521)
    have h2 : ((Int.gcd 65521 (x % 65521) : Nat) : Int) ∣ ((65521 : Nat) : Int) := this
    exact Int.natCast_dvd_natCast.mp h2
  rcases prime_q _ d1 with e | e
  · exact e
  · exfalso
    have d2 := Int.gcd_dvd_right (65521 : Int) (x % 65521)
    rw [e] at d2
    obtain ⟨c, hc⟩ := d2
    have e2 : ((65521 : Nat) : Int) = 65521 := rfl
    rw [e2] at hc
    have p1 := Int.emod_nonneg x (show (65521 : Int) ≠ 0 by decide)
    have p2 := Int.emod_lt_of_pos x (show (0 : Int) < 65521 by decide)
    omega
theorem gcd_turn {n m : Int} (h : Int.gcd n m = 1) : Int.gcd m (n - n / m * m) = 1 := by
  rw [Int.gcd_sub_mul_right_right, Int.gcd_comm]
  exact h
/-- the inverse of a word, by what it is -/
noncomputable def invP (x : Int) : Int := open Classical in if h : ∃ b : Int, 0 ≤ b ∧ b < 65521 ∧ x * b % 65521 = 1 then h.choose else 0
theorem inv_unique {x b c : Int} (hb : 0 ≤ b ∧ b < 65521 ∧ x * b % 65521 = 1) (hc : 0 ≤ c ∧ c < 65521 ∧ x * c % 65521 = 1) : b = c := by
  have e1 : b * (x * c) % 65521 = b := by
    rw [Int.mul_emod, hc.2.2, Int.mul_one, Int.emod_emod_of_dvd _ (Int.dvd_refl _), Int.emod_eq_of_lt hb.1 hb.2.1]
  have e2 : c * (x * b) % 65521 = c := by
    rw [Int.mul_emod, hb.2.2, Int.mul_one, Int.emod_emod_of_dvd _ (Int.dvd_refl _), Int.emod_eq_of_lt hc.1 hc.2.1]
  have e3 : b * (x * c) = c * (x * b) := by grind
  rw [← e1, e3, e2]
theorem invP_eq {x b : Int} (h : 0 ≤ b ∧ b < 65521 ∧ x * b % 65521 = 1) : invP x = b := by
  have hx : ∃ b : Int, 0 ≤ b ∧ b < 65521 ∧ x * b % 65521 = 1 := ⟨b, h⟩
  unfold invP
  rw [dif_pos hx]
  exact inv_unique hx.choose_spec h
/-- one turn of Euclid's algorithm -/
theorem euclid_turn {x n m f g : Int} (h1 : (x * f - n) % 65521 = 0) (h2 : (x * g - m) % 65521 = 0) : (x * (f - n / m * g) - (n - n / m * m)) % 65521 = 0 := by
  have e : x * (f - n / m * g) - (n - n / m * m) = (x * f - n) - n / m * (x * g - m) := by grind
  rw [e, Int.sub_emod, h1, Int.mul_emod, h2, Int.mul_zero]
  rfl
theorem euclid_end {x f : Int} (h : (x * f - 1) % 65521 = 0) : 0 ≤ f % 65521 ∧ f % 65521 < 65521 ∧ x * (f % 65521) % 65521 = 1 := by
  refine ⟨Int.emod_nonneg _ (by decide), Int.emod_lt_of_pos _ (by decide), ?_⟩
  have e : x * (f % 65521) % 65521 = x * f % 65521 := by rw [Int.mul_emod, Int.emod_emod_of_dvd _ (Int.dvd_refl _), ← Int.mul_emod]
  rw [e]
  omega
/-- the inverse exists (Euclid, run in the mathematics) -/
theorem inv_ex : ∀ (k : Nat) (x n m f g : Int), m.toNat ≤ k → 0 ≤ m → 0 < n → (x * f - n) % 65521 = 0 → (x * g - m) % 65521 = 0 → Int.gcd n m = 1 → ∃ b : Int, 0 ≤ b ∧ b < 65521 ∧ x * b % 65521 = 1
  | k, x, n, m, f, g, hk, hm, hn, h1, h2, hg => by
    by_cases e : m = 0
    · subst e
      have : n = 1 := by
        rw [Int.gcd_zero_right] at hg
        omega
      subst this
      exact ⟨_, euclid_end h1⟩
    · have hm' : 0 < m := by omega
      match k, hk with
      | 0, hk => omega
      | k + 1, hk =>
        have r : n - n / m * m = n % m := by
          have := Int.mul_ediv_add_emod n m
          rw [Int.mul_comm] at this
          omega
        have r1 := Int.emod_nonneg n (show m ≠ 0 by omega)
        have r2 := Int.emod_lt_of_pos n hm'
        exact inv_ex k x m (n - n / m * m) g (f - n / m * g) (by omega) (by omega) hm' h2 (euclid_turn h1 h2) (gcd_turn hg)
theorem invP_spec {x : Int} (h : x % 65521 ≠ 0) : 0 ≤ invP x ∧ invP x < 65521 ∧ x * invP x % 65521 = 1 := by
  have p1 := Int.emod_nonneg x (show (65521 : Int) ≠ 0 by decide)
  obtain ⟨b, hb⟩ := inv_ex (x % 65521).toNat x 65521 (x % 65521) 0 1 (Nat.le_refl _) p1 (by decide) (by omega) (by omega) (gcd_q x h)
  rw [invP_eq hb]
  exact hb
/-! the field of words -/
def Zp : Type := Fin 65521
instance : Lean.Grind.CommRing Zp := inferInstanceAs (Lean.Grind.CommRing (Fin 65521))
instance : Lean.Grind.IsCharP Zp 65521 := inferInstanceAs (Lean.Grind.IsCharP (Fin 65521) 65521)
instance : DecidableEq Zp := inferInstanceAs (DecidableEq (Fin 65521))
def z (n : Int) : Zp := Lean.Grind.Ring.intCast.intCast n
theorem z_eq {a b : Int} : z a = z b ↔ a % 65521 = b % 65521 := Lean.Grind.IsCharP.intCast_ext_iff (α := Zp) 65521
theorem z_mod (a : Int) : z (a % 65521) = z a := z_eq.mpr (Int.emod_emod_of_dvd _ (Int.dvd_refl _))
theorem z_add (a b : Int) : z (a + b) = z a + z b := Lean.Grind.Ring.intCast_add a b
theorem z_sub (a b : Int) : z (a - b) = z a - z b := Lean.Grind.Ring.intCast_sub a b
theorem z_mul (a b : Int) : z (a * b) = z a * z b := Lean.Grind.Ring.intCast_mul a b
theorem z_neg (a : Int) : z (-a) = -z a := Lean.Grind.Ring.intCast_neg a
theorem z_zero : z 0 = 0 := Lean.Grind.Ring.intCast_zero
theorem z_one : z 1 = 1 := Lean.Grind.Ring.intCast_one
theorem z_z (a : Int) : z a = 0 ↔ a % 65521 = 0 := by
  rw [← z_zero, z_eq]
  rfl
theorem z_inj {a b : Int} (ha : 0 ≤ a) (ha' : a < 65521) (hb : 0 ≤ b) (hb' : b < 65521) (h : z a = z b) : a = b := by
  have := z_eq.mp h
  rw [Int.emod_eq_of_lt ha ha', Int.emod_eq_of_lt hb hb'] at this
  exact this
theorem z_mod_eq {a b : Int} (h : z a = z b) : a % 65521 = b % 65521 := z_eq.mp h
theorem z_surj (x : Zp) : ∃ n : Int, 0 ≤ n ∧ n < 65521 ∧ z n = x := by
  refine ⟨((show Fin 65521 from x).val : Int), by omega, by omega, ?_⟩
  show (Fin.intCast ((show Fin 65521 from x).val : Int) : Fin 65521) = x
  unfold Fin.intCast
  rw [if_pos (by omega), Int.natAbs_natCast]
  exact Fin.ofNat_val_eq_self _
theorem z_invP {n : Int} (h : z n ≠ 0) : z n * z (invP n) = 1 := by
  have h' : n % 65521 ≠ 0 := fun e => h ((z_z n).mpr e)
  obtain ⟨b0, b1, b2⟩ := invP_spec h'
  rw [← z_mul, ← z_one, z_eq]
  exact b2
theorem zp_inv {a : Zp} (h : a ≠ 0) : ∃ b : Zp, a * b = 1 := by
  obtain ⟨n, _, _, rfl⟩ := z_surj a
  exact ⟨_, z_invP h⟩
theorem zp_div {a b : Zp} (h : a * b = 0) : a = 0 ∨ b = 0 := by
  by_cases ha : a = 0
  · exact .inl ha
  · obtain ⟨c, hc⟩ := zp_inv ha
    right
    have : b = c * (a * b) := by grind
    rw [this, h]
    grind
theorem zp_01 : (1 : Zp) ≠ 0 := by
  rw [← z_one, ← z_zero]
  intro h
  have := z_eq.mp h
  omega
theorem zp_mul_ne {a b : Zp} (ha : a ≠ 0) (hb : b ≠ 0) : a * b ≠ 0 := fun h => (zp_div h).elim ha hb
/-! ### functions that are polynomials with n coefficients -/
def Pol : Nat → (Zp → Zp) → Prop
  | 0, f => ∀ x, f x = 0
  | n + 1, f => ∃ (c : Zp) (g : Zp → Zp), Pol n g ∧ ∀ x, f x = c + x * g x
theorem Pol.ext : ∀ {n : Nat} {f g : Zp → Zp}, Pol n f → (∀ x, g x = f x) → Pol n g
  | 0, _, _, h, e => fun x => (e x).trans (h x)
  | _ + 1, _, _, ⟨c, g, h, q⟩, e => ⟨c, g, h, fun x => (e x).trans (q x)⟩
theorem pol_nil : ∀ n : Nat, Pol n fun _ => 0
  | 0 => fun _ => rfl
  | n + 1 => ⟨0, fun _ => 0, pol_nil n, fun x => by grind⟩
theorem Pol.up : ∀ {n : Nat} {f : Zp → Zp}, Pol n f → Pol (n + 1) f
  | 0, f, h => ⟨0, fun _ => 0, fun _ => rfl, fun x => by rw [h x]; grind⟩
  | n + 1, _, ⟨c, g, h, q⟩ => ⟨c, g, h.up, q⟩
theorem Pol.mono {n m : Nat} {f : Zp → Zp} (h : Pol n f) (l : n ≤ m) : Pol m f := by
  induction l with
  | refl => exact h
  | step _ ih => exact ih.up
theorem Pol.add : ∀ {n : Nat} {f g : Zp → Zp}, Pol n f → Pol n g → Pol n fun x => f x + g x
  | 0, f, g, h, k => fun x => by show f x + g x = 0; rw [h x, k x]; grind
  | n + 1, f, g, ⟨c, u, h, p⟩, ⟨d, v, k, q⟩ => ⟨c + d, fun x => u x + v x, Pol.add h k, fun x => by show f x + g x = _; rw [p x, q x]; grind⟩
theorem Pol.smul : ∀ {n : Nat} {f : Zp → Zp} (a : Zp), Pol n f → Pol n fun x => f x * a
  | 0, f, a, h => fun x => by show f x * a = 0; rw [h x]; grind
  | n + 1, f, a, ⟨c, u, h, p⟩ => ⟨c * a, fun x => u x * a, Pol.smul a h, fun x => by show f x * a = _; rw [p x]; grind⟩
theorem Pol.const (c : Zp) : Pol 1 fun _ => c := ⟨c, fun _ => 0, fun _ => rfl, fun x => by grind⟩
theorem Pol.xmul {n : Nat} {f : Zp → Zp} (h : Pol n f) : Pol (n + 1) fun x => x * f x := ⟨0, f, h, fun x => by grind⟩
theorem Pol.lin {n : Nat} {f : Zp → Zp} (a : Zp) (h : Pol n f) : Pol (n + 1) fun x => (x - a) * f x :=
  (h.xmul.add (h.up.smul (-a))).ext fun x => by grind
theorem Pol.sub {n : Nat} {f g : Zp → Zp} (h : Pol n f) (k : Pol n g) : Pol n fun x => f x - g x :=
  (h.add (k.smul (-1))).ext fun x => by grind
/-- a polynomial less its value at a is a multiple of x - a -/
theorem Pol.at : ∀ {n : Nat} {f : Zp → Zp} (a : Zp), Pol (n + 1) f → ∃ g, Pol n g ∧ ∀ x, f x = f a + (x - a) * g x
  | 0, f, a, ⟨c, g, h, q⟩ => ⟨fun _ => 0, fun _ => rfl, fun x => by rw [q x, q a, h x, h a]; grind⟩
  | n + 1, f, a, ⟨c, g, h, q⟩ => by
    obtain ⟨k, hk, e⟩ := Pol.at a h
    refine ⟨fun x => g a + x * k x, ⟨g a, k, hk, fun _ => rfl⟩, fun x => ?_⟩
    have e1 := e x
    rw [q x, q a]
    grind
/-- as many zeros as coefficients: it is zero -/
theorem Pol.roots : ∀ {n : Nat} {f : Zp → Zp} (xs : List Zp), Pol n f → xs.Nodup → n ≤ xs.length → (∀ a ∈ xs, f a = 0) → ∀ x, f x = 0
  | 0, _, _, h, _, _, _ => h
  | n + 1, f, [], _, _, hl, _ => absurd hl (by simp)
  | n + 1, f, a :: r, h, hn, hl, hz => by
    obtain ⟨g, hg, e⟩ := Pol.at a h
    have ha : f a = 0 := hz a (by simp)
    have hn' := List.nodup_cons.mp hn
    have g0 : ∀ x, g x = 0 := Pol.roots r hg hn'.2 (by simpa using hl) fun b hb => by
      have hb0 := hz b (List.mem_cons_of_mem _ hb)
      rw [e b, ha] at hb0
      have : (b - a) * g b = 0 := by grind
      rcases zp_div this with q | q
      · exfalso
        have : b = a := by grind
        exact hn'.1 (this ▸ hb)
      · exact q
    intro x
    rw [e x, ha, g0 x]
    grind
/-! ### products of differences -/
def prodZ : List Int → Zp → Zp
  | [], _ => 1
  | o :: os, x => (x - z o) * prodZ os x
theorem prodZ_pol : ∀ os : List Int, Pol (os.length + 1) (prodZ os)
  | [] => (Pol.const 1).ext fun _ => rfl
  | o :: os => (Pol.lin (z o) (prodZ_pol os)).ext fun _ => rfl
theorem prodZ_root {o : Int} {x : Zp} : ∀ {os : List Int}, o ∈ os → x = z o → prodZ os x = 0
  | [], h, _ => by simp at h
  | p :: os, h, e => by
    show (x - z p) * prodZ os x = 0
    rcases List.mem_cons.mp h with q | q
    · rw [e, q]
      grind
    · rw [prodZ_root q e]
      grind
theorem prodZ_ne {x : Zp} : ∀ {os : List Int}, (∀ o ∈ os, x ≠ z o) → prodZ os x ≠ 0
  | [], _ => zp_01
  | p :: os, h => by
    refine zp_mul_ne (fun e => h p (by simp) ?_) (prodZ_ne fun o ho => h o (List.mem_cons_of_mem _ ho))
    grind
/-- as the program multiplies -/
def prodM (os : List Int) (x acc : Int) : Int := os.foldl (fun acc o => acc * (x - o) % 65521) acc
theorem prodM_z : ∀ (os : List Int) (x acc : Int), z (prodM os x acc) = z acc * prodZ os (z x)
  | [], x, acc => by
    show z acc = z acc * 1
    grind
  | o :: os, x, acc => by
    show z (prodM os x (acc * (x - o) % 65521)) = z acc * ((z x - z o) * prodZ os (z x))
    rw [prodM_z os x, z_mod, z_mul, z_sub]
    grind
theorem prodM_word : ∀ (os : List Int) (x acc : Int), 0 ≤ acc → acc < 65521 → 0 ≤ prodM os x acc ∧ prodM os x acc < 65521
  | [], _, _, h0, h1 => ⟨h0, h1⟩
  | o :: os, x, acc, _, _ => prodM_word os x _ (Int.emod_nonneg _ (by decide)) (Int.emod_lt_of_pos _ (by decide))
theorem prodM_snoc (os : List Int) (o x acc : Int) : prodM (os ++ [o]) x acc = prodM os x acc * (x - o) % 65521 := by
  unfold prodM
  rw [List.foldl_append]
  rfl
/-- a place's factor -/
noncomputable def wgt (p : Int) (os : List Int) (x : Int) : Int := prodM os x 1 * invP (prodM os p 1) % 65521
theorem wgt_word (p : Int) (os : List Int) (x : Int) : 0 ≤ wgt p os x ∧ wgt p os x < 65521 := ⟨Int.emod_nonneg _ (by decide), Int.emod_lt_of_pos _ (by decide)⟩
theorem wgt_z (p : Int) (os : List Int) (x : Int) : z (wgt p os x) = prodZ os (z x) * z (invP (prodM os p 1)) := by
  unfold wgt
  rw [z_mod, z_mul, prodM_z, z_one]
  grind
theorem wgt_ok {p : Int} {os : List Int} (h : ∀ o ∈ os, z p ≠ z o) : prodM os p 1 % 65521 ≠ 0 := fun e => by
  have := (z_z _).mpr e
  rw [prodM_z, z_one] at this
  refine prodZ_ne h ?_
  grind
/-- all places but the i-th -/
def others (ws : List Int) (i : Nat) : List Int := ws.take i ++ ws.drop (i + 1)
noncomputable def weightsM (ws : List Int) (x : Int) : List Int := (List.range ws.length).map fun i => wgt (ws.getD i 0) (others ws i) x
theorem weightsM_length (ws : List Int) (x : Int) : (weightsM ws x).length = ws.length := by simp [weightsM]
theorem weightsM_get {ws : List Int} {x : Int} {i : Nat} (h : i < ws.length) : (weightsM ws x)[i]? = some (wgt (ws.getD i 0) (others ws i) x) := by
  unfold weightsM
  rw [List.getElem?_map, List.getElem?_range h]
  rfl
/-- no two places are equal modulo the prime -/
def Apart (ws : List Int) : Prop := (ws.map z).Nodup
theorem apart_ne {ws : List Int} (h : Apart ws) {i j : Nat} (hi : i < ws.length) (hj : j < ws.length) (n : i ≠ j) : z (ws.getD i 0) ≠ z (ws.getD j 0) := fun e => by
  refine n ((List.getElem_inj (xs := ws.map z) (h₀ := by simpa using hi) (h₁ := by simpa using hj) h).mp ?_)
  rw [List.getElem_map, List.getElem_map]
  simpa [List.getD_eq_getElem?_getD, hi, hj] using e
theorem mem_others {ws : List Int} {i : Nat} {o : Int} : o ∈ others ws i ↔ ∃ j, j < ws.length ∧ j ≠ i ∧ o = ws.getD j 0 := by
  unfold others
  rw [List.mem_append, List.mem_iff_getElem?, List.mem_iff_getElem?]
  constructor
  · rintro (⟨j, h⟩ | ⟨j, h⟩)
    · rw [List.getElem?_take] at h
      by_cases c : j < i
      · rw [if_pos c] at h
        obtain ⟨hl, e⟩ := List.getElem?_eq_some_iff.mp h
        exact ⟨j, hl, by omega, by simp [List.getD_eq_getElem?_getD, hl, e]⟩
      · rw [if_neg c] at h
        cases h
    · rw [List.getElem?_drop] at h
      obtain ⟨hl, e⟩ := List.getElem?_eq_some_iff.mp h
      exact ⟨_, hl, by omega, by simp [List.getD_eq_getElem?_getD, hl, e]⟩
  · rintro ⟨j, hl, n, rfl⟩
    by_cases c : j < i
    · exact .inl ⟨j, by rw [List.getElem?_take, if_pos c, List.getElem?_eq_getElem hl]; simp [List.getD_eq_getElem?_getD, hl]⟩
    · refine .inr ⟨j - (i + 1), ?_⟩
      rw [List.getElem?_drop, show i + 1 + (j - (i + 1)) = j by omega, List.getElem?_eq_getElem hl]
      simp [List.getD_eq_getElem?_getD, hl]
theorem others_length {ws : List Int} {i : Nat} (h : i < ws.length) : (others ws i).length + 1 = ws.length := by
  unfold others
  rw [List.length_append, List.length_take, List.length_drop]
  omega
theorem others_apart {ws : List Int} (h : Apart ws) {i : Nat} (hi : i < ws.length) : ∀ o ∈ others ws i, z (ws.getD i 0) ≠ z o := fun o ho => by
  obtain ⟨j, hl, n, rfl⟩ := mem_others.mp ho
  exact apart_ne h hi hl (Ne.symm n)
/-! ### sums -/
def sumR : Nat → (Nat → Zp) → Zp
  | 0, _ => 0
  | n + 1, g => sumR n g + g n
theorem sumR_ext : ∀ {n : Nat} {f g : Nat → Zp}, (∀ i, i < n → f i = g i) → sumR n f = sumR n g
  | 0, _, _, _ => rfl
  | n + 1, f, g, h => by
    show sumR n f + f n = sumR n g + g n
    rw [sumR_ext fun i hi => h i (by omega), h n (by omega)]
theorem sumR_zero : ∀ {n : Nat} {f : Nat → Zp}, (∀ i, i < n → f i = 0) → sumR n f = 0
  | 0, _, _ => rfl
  | n + 1, f, h => by
    show sumR n f + f n = 0
    rw [sumR_zero fun i hi => h i (by omega), h n (by omega)]
    grind
theorem sumR_one : ∀ {n : Nat} {f : Nat → Zp} {j : Nat}, j < n → (∀ i, i < n → i ≠ j → f i = 0) → sumR n f = f j
  | n + 1, f, j, hj, h => by
    show sumR n f + f n = f j
    by_cases c : j = n
    · subst c
      rw [sumR_zero fun i hi => h i (by omega) (by omega)]
      grind
    · rw [sumR_one (j := j) (by omega) fun i hi n' => h i (by omega) n', h n (by omega) (by omega)]
      grind
theorem sumR_pol {m : Nat} : ∀ {n : Nat} {F : Nat → Zp → Zp}, (∀ i, i < n → Pol m (F i)) → Pol m fun x => sumR n fun i => F i x
  | 0, _, _ => (pol_nil m).ext fun _ => rfl
  | n + 1, F, h => (Pol.add (sumR_pol (n := n) fun i hi => h i (by omega)) (h n (by omega))).ext fun _ => rfl
/-- the sum of factors times values -/
def dotR (us vs : List Int) : Int := ((List.range us.length).map fun i => us.getD i 0 * vs.getD i 0).sum
theorem sum_range_z : ∀ (n : Nat) (f : Nat → Int), z ((List.range n).map f).sum = sumR n fun i => z (f i)
  | 0, _ => z_zero
  | n + 1, f => by
    rw [List.range_succ, List.map_append, List.sum_append, z_add, sum_range_z n f]
    show _ + z ((f n) + 0) = _
    rw [Int.add_zero]
    rfl
theorem dotR_z (us vs : List Int) : z (dotR us vs) = sumR us.length fun i => z (us.getD i 0) * z (vs.getD i 0) := by
  unfold dotR
  rw [sum_range_z]
  exact sumR_ext fun i _ => z_mul _ _
/-- the value at x, as the program reckons it -/
noncomputable def valM (ws ys : List Int) (x : Int) : Int := dotR (weightsM ws x) ys % 65521
theorem valM_word (ws ys : List Int) (x : Int) : 0 ≤ valM ws ys x ∧ valM ws ys x < 65521 := ⟨Int.emod_nonneg _ (by decide), Int.emod_lt_of_pos _ (by decide)⟩
theorem valM_z (ws ys : List Int) (x : Int) : z (valM ws ys x) = sumR ws.length fun i => prodZ (others ws i) (z x) * (z (invP (prodM (others ws i) (ws.getD i 0) 1)) * z (ys.getD i 0)) := by
  unfold valM
  rw [z_mod, dotR_z, weightsM_length]
  refine sumR_ext fun i hi => ?_
  have e : (weightsM ws x).getD i 0 = wgt (ws.getD i 0) (others ws i) x := by rw [List.getD_eq_getElem?_getD, weightsM_get hi]; rfl
  rw [e, wgt_z]
  grind
/-- at a place it is the point's own value -/
theorem valM_node {ws ys : List Int} (h : Apart ws) {x : Int} {j : Nat} (hj : j < ws.length) (e : z x = z (ws.getD j 0)) : z (valM ws ys x) = z (ys.getD j 0) := by
  rw [valM_z, sumR_one hj fun i hi n => ?_]
  · have p := others_apart h hj
    have q := wgt_ok p
    have r : z (prodM (others ws j) (ws.getD j 0) 1) * z (invP (prodM (others ws j) (ws.getD j 0) 1)) = 1 := z_invP fun e => q ((z_z _).mp e)
    rw [prodM_z, z_one] at r
    rw [e]
    grind
  · rw [prodZ_root (mem_others.mpr ⟨j, hj, Ne.symm n, rfl⟩) e]
    grind
/-- the values of a polynomial at the places give its value anywhere -/
theorem valM_pol {ws ys : List Int} (h : Apart ws) {f : Zp → Zp} (hf : Pol ws.length f) (hy : ∀ i, i < ws.length → z (ys.getD i 0) = f (z (ws.getD i 0))) (x : Int) : z (valM ws ys x) = f (z x) := by
  have P : Pol ws.length fun x => (sumR ws.length fun i => prodZ (others ws i) x * (z (invP (prodM (others ws i) (ws.getD i 0) 1)) * z (ys.getD i 0))) - f x := by
    refine Pol.sub (sumR_pol fun i hi => Pol.smul _ ?_) hf
    have := prodZ_pol (others ws i)
    rw [others_length hi] at this
    exact this
  have R := Pol.roots (ws.map z) P h (by simp) (fun a ha => ?_) (z x)
  · rw [valM_z]
    have R' : (sumR ws.length fun i => prodZ (others ws i) (z x) * (z (invP (prodM (others ws i) (ws.getD i 0) 1)) * z (ys.getD i 0))) - f (z x) = 0 := R
    grind
  · obtain ⟨p, hp, rfl⟩ := List.mem_map.mp ha
    obtain ⟨j, hj⟩ := List.mem_iff_getElem?.mp hp
    obtain ⟨hl, e⟩ := List.getElem?_eq_some_iff.mp hj
    have ep : ws.getD j 0 = p := by simp [List.getD_eq_getElem?_getD, hl, e]
    have v := valM_node (ys := ys) h (x := p) hl (by rw [ep])
    rw [valM_z, hy j hl, ep] at v
    show (sumR ws.length fun i => prodZ (others ws i) (z p) * (z (invP (prodM (others ws i) (ws.getD i 0) 1)) * z (ys.getD i 0))) - f (z p) = 0
    rw [v]
    grind
theorem z_small {n : Int} (h0 : 0 < n) (h1 : n < 65521) : z n ≠ 0 := fun e => by
  have := (z_z n).mp e
  omega
/-! a polynomial's value -/
def pev : List Int → Zp → Zp
  | [], _ => 0
  | c :: r, x => z c + x * pev r x
theorem pev_pol : ∀ ns : List Int, Pol ns.length (pev ns)
  | [] => fun _ => rfl
  | c :: r => ⟨z c, pev r, pev_pol r, fun _ => rfl⟩
/-- as it is reckoned: from the highest coefficient down -/
def horn : List Int → Int → Int
  | [], _ => 0
  | c :: r, x => (horn r x * x + c) % 65521
theorem horn_z : ∀ (ns : List Int) (x : Int), z (horn ns x) = pev ns (z x)
  | [], _ => z_zero
  | c :: r, x => by
    show z ((horn r x * x + c) % 65521) = z c + z x * pev r (z x)
    rw [z_mod, z_add, z_mul, horn_z r x]
    grind
theorem horn_word : ∀ (ns : List Int) (x : Int), 0 ≤ horn ns x ∧ horn ns x < 65521
  | [], _ => by show (0 : Int) ≤ 0 ∧ (0 : Int) < 65521; omega
  | _ :: _, _ => ⟨Int.emod_nonneg _ (by decide), Int.emod_lt_of_pos _ (by decide)⟩
theorem horn_drop {ns : List Int} {x c : Int} {i : Nat} (h : ns[i]? = some c) : horn (ns.drop i) x = (horn (ns.drop (i + 1)) x * x + c) % 65521 := by
  obtain ⟨hl, e⟩ := List.getElem?_eq_some_iff.mp h
  rw [List.drop_eq_getElem_cons hl, e]
  rfl
/-! polynomials by their values: degree, normal forms -/
def Wd (w : Int) : Prop := 0 ≤ w ∧ w < 65521
/-- a list of words whose last one is not 0 -/
def Norm (r : List Int) : Prop := (∀ w ∈ r, Wd w) ∧ (r = [] ∨ r.getD (r.length - 1) 0 ≠ 0)
def pw (x : Zp) : Nat → Zp
  | 0 => 1
  | n + 1 => x * pw x n
theorem pev_append : ∀ (a b : List Int) (x : Zp), pev (a ++ b) x = pev a x + pw x a.length * pev b x
  | [], b, x => by
    show pev b x = 0 + 1 * pev b x
    grind
  | c :: a, b, x => by
    show z c + x * pev (a ++ b) x = (z c + x * pev a x) + (x * pw x a.length) * pev b x
    rw [pev_append a b x]
    grind
theorem pev_zeros : ∀ {a : List Int}, (∀ w ∈ a, z w = 0) → ∀ x, pev a x = 0
  | [], _, _ => rfl
  | c :: a, h, x => by
    show z c + x * pev a x = 0
    rw [h c (by simp), pev_zeros (fun w m => h w (List.mem_cons_of_mem _ m))]
    grind
theorem pev_mod : ∀ (a : List Int) (x : Zp), pev (a.map (· % 65521)) x = pev a x
  | [], _ => rfl
  | c :: a, x => by
    show z (c % 65521) + x * pev (a.map (· % 65521)) x = z c + x * pev a x
    rw [z_mod, pev_mod a x]
/-- one place of the list gets another number -/
theorem pev_set : ∀ {a : List Int} {i : Nat} {c d : Int} (x : Zp), a[i]? = some c → pev (a.set i d) x = pev a x + pw x i * (z d - z c)
  | [], _, _, _, _, h => by simp at h
  | b :: a, 0, c, d, x, h => by
    have e : b = c := Option.some.inj h
    subst e
    show z d + x * pev a x = (z b + x * pev a x) + 1 * (z d - z b)
    grind
  | b :: a, i + 1, c, d, x, h => by
    show z b + x * pev (a.set i d) x = (z b + x * pev a x) + (x * pw x i) * (z d - z c)
    rw [pev_set (i := i) (c := c) x h]
    grind
theorem pw_add (x : Zp) : ∀ n m : Nat, pw x (n + m) = pw x n * pw x m
  | 0, m => by
    rw [Nat.zero_add]
    show pw x m = 1 * pw x m
    grind
  | n + 1, m => by
    rw [Nat.succ_add]
    show x * pw x (n + m) = (x * pw x n) * pw x m
    rw [pw_add x n m]
    grind
theorem pev_snoc (a : List Int) (c : Int) (x : Zp) : pev (a ++ [c]) x = pev a x + pw x a.length * z c := by
  rw [pev_append]
  show _ + _ * (z c + x * 0) = _
  grind
/-! all words as places -/
def allZ (n : Nat) : List Zp := (List.range n).map fun (k : Nat) => z ((k : Int) + 1)
theorem allZ_nodup {n : Nat} (h : n ≤ 65520) : (allZ n).Nodup := by
  unfold allZ List.Nodup
  rw [List.pairwise_map]
  refine (List.nodup_range (n := n)).imp_of_mem fun {a b} ha hb ne e => ?_
  have h1 := List.mem_range.mp ha
  have h2 := List.mem_range.mp hb
  have := z_eq.mp e
  omega
theorem allZ_ne {n : Nat} (h : n ≤ 65520) : ∀ a ∈ allZ n, a ≠ 0 := fun a ha e => by
  obtain ⟨k, hk, rfl⟩ := List.mem_map.mp ha
  have h1 := List.mem_range.mp hk
  have := (z_z _).mp e
  omega
/-- zero but perhaps at 0: zero -/
theorem Pol.punct {n : Nat} {f : Zp → Zp} (h : Pol n f) (hn : n ≤ 65520) (hz : ∀ x, x ≠ 0 → f x = 0) : ∀ x, f x = 0 :=
  Pol.roots (allZ n) h (allZ_nodup hn) (by simp [allZ]) fun a ha => hz a (allZ_ne hn a ha)
theorem Pol.pw : ∀ (n : Nat) (c : Zp), Pol (n + 1) fun x => c * PP.pw x n
  | 0, c => (Pol.const c).ext fun x => by show c * 1 = c; grind
  | n + 1, c => ((Pol.pw n c).xmul).ext fun x => by show c * (x * PP.pw x n) = x * (c * PP.pw x n); grind
/-- a power beyond the coefficients has the factor 0 -/
theorem lead_zero : ∀ (n : Nat) {c : Zp} {h : Zp → Zp}, n ≤ 60000 → Pol n h → (∀ x, c * pw x n = h x) → c = 0
  | 0, c, h, _, hp, e => by
    have := e 0
    rw [hp 0] at this
    have : c * 1 = 0 := this
    grind
  | n + 1, c, h, hn, ⟨d, g, hg, q⟩, e => by
    have e0 : d = 0 := by
      have h0 := e 0
      rw [q 0] at h0
      have : c * (0 * pw 0 n) = d + 0 * g 0 := h0
      grind
    have F : ∀ x, c * pw x n - g x = 0 := Pol.punct (n := n + 1) (Pol.sub (Pol.pw n c) hg.up) (by omega) fun x hx => by
      have h1 := e x
      rw [q x, e0] at h1
      have h2 : c * (x * pw x n) = 0 + x * g x := h1
      have h3 : x * (c * pw x n - g x) = 0 := by grind
      exact (zp_div h3).resolve_left hx
    exact lead_zero n (by omega) hg fun x => by
      have := F x
      grind
/-- a normal list has no more words than its values need -/
theorem norm_le {r : List Int} {n : Nat} (h : Norm r) (hn : n ≤ 60000) (hp : Pol n (pev r)) (hr : r.length ≤ 60000) : r.length ≤ n := by
  refine Classical.byContradiction fun c => ?_
  obtain ⟨hw, hl⟩ := h
  have rne : r ≠ [] := fun e => by rw [e] at c; simp at c
  have hl := hl.resolve_left rne
  have e : r = r.take (r.length - 1) ++ [r.getD (r.length - 1) 0] := by
    have hlt : r.length - 1 < r.length := by
      have := List.length_pos_iff.mpr rne
      omega
    conv => lhs; rw [← List.take_append_drop (r.length - 1) r]
    rw [List.drop_eq_getElem_cons hlt, show r.length - 1 + 1 = r.length by omega, List.drop_length]
    simp [List.getD_eq_getElem?_getD, hlt]
  have P1 : Pol (r.length - 1) (pev (r.take (r.length - 1))) := (pev_pol _).mono (by rw [List.length_take]; omega)
  have P2 : Pol (r.length - 1) (pev r) := hp.mono (by omega)
  have z0 := lead_zero (r.length - 1) (c := z (r.getD (r.length - 1) 0)) (by omega) (Pol.sub P2 P1) fun x => by
    have := pev_snoc (r.take (r.length - 1)) (r.getD (r.length - 1) 0) x
    rw [← e, List.length_take, Nat.min_eq_left (by omega)] at this
    show _ = pev r x - pev (r.take (r.length - 1)) x
    grind
  have w := hw (r.getD (r.length - 1) 0) (by
    have hlt : r.length - 1 < r.length := by
      have := List.length_pos_iff.mpr rne
      omega
    rw [List.getD_eq_getElem?_getD, List.getElem?_eq_getElem hlt]
    exact List.getElem_mem hlt)
  have := (z_z _).mp z0
  obtain ⟨w0, w1⟩ := w
  omega
/-- the same values everywhere: the same words -/
theorem pev_inj : ∀ {a b : List Int}, a.length = b.length → a.length ≤ 60000 → (∀ w ∈ a, Wd w) → (∀ w ∈ b, Wd w) → (∀ x, pev a x = pev b x) → a = b
  | [], [], _, _, _, _, _ => rfl
  | [], _ :: _, h, _, _, _, _ => by simp at h
  | _ :: _, [], h, _, _, _, _ => by simp at h
  | c :: a, d :: b, hl, hz, ha, hb, e => by
    have e0 : z c = z d := by
      have : z c + 0 * pev a 0 = z d + 0 * pev b 0 := e 0
      grind
    have wc := ha c (by simp)
    have wd := hb d (by simp)
    have ecd : c = d := z_inj wc.1 wc.2 wd.1 wd.2 e0
    have hl' : a.length = b.length := by simpa using hl
    have hz' : a.length + 1 ≤ 60000 := by simpa using hz
    have F : ∀ x, pev a x - pev b x = 0 := Pol.punct (n := a.length) (Pol.sub (pev_pol a) ((pev_pol b).mono (by omega))) (by omega) fun x hx => by
      have h1 : z c + x * pev a x = z d + x * pev b x := e x
      have h3 : x * (pev a x - pev b x) = 0 := by grind
      exact (zp_div h3).resolve_left hx
    rw [ecd, pev_inj hl' (by omega) (fun w m => ha w (List.mem_cons_of_mem _ m)) (fun w m => hb w (List.mem_cons_of_mem _ m)) fun x => by have := F x; grind]
theorem norm_inj {a b : List Int} (ha : Norm a) (hb : Norm b) (la : a.length ≤ 60000) (lb : b.length ≤ 60000) (e : ∀ x, pev a x = pev b x) : a = b := by
  have h1 := norm_le ha lb ((pev_pol b).ext e) la
  have h2 := norm_le hb la ((pev_pol a).ext fun x => (e x).symm) lb
  exact pev_inj (by omega) la ha.1 hb.1 e
/-! products -/
theorem Pol.mul : ∀ {n m : Nat} {f g : Zp → Zp}, Pol n f → Pol m g → Pol (n + m) fun x => f x * g x
  | 0, m, f, g, h, _ => (pol_nil (0 + m)).ext fun x => by show f x * g x = 0; rw [h x]; grind
  | n + 1, m, f, g, ⟨c, u, h, q⟩, k => by
    have A := (Pol.mul h k).xmul
    have B := (k.smul c).mono (show m ≤ n + m + 1 by omega)
    rw [show n + 1 + m = n + m + 1 by omega]
    exact (B.add A).ext fun x => by show f x * g x = g x * c + x * (u x * g x); rw [q x]; grind
/-- the highest coefficient -/
theorem norm_lead {a : List Int} (h : Norm a) (ne : a ≠ []) : ∃ (c : Zp) (g : Zp → Zp), c ≠ 0 ∧ Pol (a.length - 1) g ∧ ∀ x, pev a x = g x + c * pw x (a.length - 1) := by
  have hlt : a.length - 1 < a.length := by
    have := List.length_pos_iff.mpr ne
    omega
  refine ⟨z (a.getD (a.length - 1) 0), pev (a.take (a.length - 1)), fun e => ?_, (pev_pol _).mono (by rw [List.length_take]; omega), fun x => ?_⟩
  · have w : Wd (a.getD (a.length - 1) 0) := h.1 _ (by rw [List.getD_eq_getElem?_getD, List.getElem?_eq_getElem hlt]; exact List.getElem_mem hlt)
    have := (z_z _).mp e
    have ne0 := h.2.resolve_left ne
    obtain ⟨w0, w1⟩ := w
    omega
  · have e : a = a.take (a.length - 1) ++ [a.getD (a.length - 1) 0] := by
      conv => lhs; rw [← List.take_append_drop (a.length - 1) a]
      rw [List.drop_eq_getElem_cons hlt, show a.length - 1 + 1 = a.length by omega, List.drop_length]
      simp [List.getD_eq_getElem?_getD, hlt]
    have := pev_snoc (a.take (a.length - 1)) (a.getD (a.length - 1) 0) x
    rw [← e, List.length_take, Nat.min_eq_left (by omega)] at this
    rw [this]
    grind
theorem norm_mul {a b r : List Int} (ha : Norm a) (hb : Norm b) (hr : Norm r) (na : a ≠ []) (nb : b ≠ []) (la : a.length ≤ 1000) (lb : b.length ≤ 1000) (lr : r.length ≤ 60000) (e : ∀ x, pev r x = pev a x * pev b x) : r.length = a.length + b.length - 1 := by
  obtain ⟨c, g, hc, hg, eg⟩ := norm_lead ha na
  obtain ⟨d, k, hd, hk, ek⟩ := norm_lead hb nb
  have pa := List.length_pos_iff.mpr na
  have pb := List.length_pos_iff.mpr nb
  -- what is below the highest power
  have low : Pol (a.length - 1 + (b.length - 1)) fun x => pev r x - (c * d) * pw x (a.length - 1 + (b.length - 1)) := by
    have A := (hg.mul ((Pol.pw (b.length - 1) d).add hk.up)).mono (show a.length - 1 + (b.length - 1 + 1) ≤ a.length - 1 + (b.length - 1) + 1 by omega)
    have B : ∀ n m : Nat, ∀ u : Zp → Zp, Pol m u → Pol (n + m) fun x => pw x n * u x := by
      intro n
      induction n with
      | zero => exact fun m u hu => by rw [Nat.zero_add]; exact hu.ext fun x => by show 1 * u x = u x; grind
      | succ n ih => exact fun m u hu => by rw [Nat.succ_add]; exact ((ih m u hu).xmul).ext fun x => by show (x * pw x n) * u x = x * (pw x n * u x); grind
    have C := (B (a.length - 1) (b.length - 1) k hk).smul c
    have D := (B (b.length - 1) (a.length - 1) g hg).smul d
    have G : Pol (a.length - 1 + (b.length - 1)) fun x => g x * k x := hg.mul hk
    rw [Nat.add_comm (b.length - 1)] at D
    refine ((C.add D).add G).ext fun x => ?_
    show pev r x - (c * d) * pw x (a.length - 1 + (b.length - 1)) = (pw x (a.length - 1) * k x * c + pw x (b.length - 1) * g x * d) + g x * k x
    rw [e x, eg x, ek x, pw_add]
    grind
  have up : Pol (a.length - 1 + (b.length - 1) + 1) (pev r) := (low.up.add (Pol.pw _ (c * d))).ext fun x => by
    show pev r x = (pev r x - (c * d) * pw x _) + (c * d) * pw x _
    grind
  have h1 := norm_le hr (by omega) up lr
  by_cases q : r.length ≤ a.length - 1 + (b.length - 1)
  · exfalso
    have P := (pev_pol r).mono q
    have := lead_zero (a.length - 1 + (b.length - 1)) (c := c * d) (by omega) (P.sub low) fun x => by
      show _ = pev r x - (pev r x - (c * d) * pw x _)
      grind
    exact zp_mul_ne hc hd this
  · omega
theorem norm_snoc {a : List Int} {c : Int} (h : ∀ w ∈ a, Wd w) (hc : Wd c) (n : c ≠ 0) : Norm (a ++ [c]) := by
  refine ⟨fun w m => ?_, .inr ?_⟩
  · rcases List.mem_append.mp m with m | m
    · exact h w m
    · have : w = c := by simpa using m
      rw [this]
      exact hc
  · rw [List.length_append, List.length_singleton, Nat.add_sub_cancel, List.getD_eq_getElem?_getD]
    simpa using n
theorem norm_nil : Norm [] := ⟨fun _ m => (nomatch m), .inl rfl⟩
theorem pev_smul (fa : Int) : ∀ (b : List Int) (x : Zp), pev (b.map fun c => fa * c) x = z fa * pev b x
  | [], x => by show (0 : Zp) = _ * 0; grind
  | c :: r, x => by
    show z (fa * c) + x * pev (r.map fun c => fa * c) x = z fa * (z c + x * pev r x)
    rw [pev_smul fa r x, z_mul]
    grind
/-! heaps, slices, points -/
theorem _root_.L2.Same.tup {K : PySem.W.Frag} {H H' : Hp} {a : Addr} {xs : List V} (e : Same H H') (h : SqT K H a xs) : SqT K H' a xs := by
  rcases h with (h | ⟨o, h⟩) | h
  · exact .inl (.inl (e _ _ h))
  · exact .inl (.inr ⟨o, e _ _ h⟩)
  · exact .inr h
theorem _root_.L2.Same.new {H : Hp} {p : Addr} {o : HO} (h : H p = none) : Same H (upd H p o) := fun _ _ e => by
  rw [upd_ne (ne_of_none e h)]
  exact e
/-- what was tracked is as it was, but for p -/
def But (p : Addr) (H H' : Hp) : Prop := ∀ b o, H b = some o → b ≠ p → H' b = some o
theorem Only.but {p : Addr} {H H' : Hp} (h : Only p H H') : But p H H' := fun b _ e n => (h b n).trans e
theorem _root_.L2.Same.but {p : Addr} {H H' : Hp} (h : Same H H') : But p H H' := fun b o e _ => h b o e
theorem But.trans {p : Addr} {H H1 H2 : Hp} (x : But p H H1) (y : But p H1 H2) : But p H H2 := fun b o e n => y b o (x b o e n) n
theorem But.same {p : Addr} {H0 H H' : Hp} (y : But p H H') (x : Same H0 H) (h : H0 p = none) : Same H0 H' := fun b o e => y b o (x b o e) (ne_of_none e h)
theorem But.new {p q : Addr} {H H' : Hp} {o : HO} (x : But p H H') (h : H' q = none) : But p H (upd H' q o) := x.trans (Same.new h).but
theorem _root_.L2.Same.at {H H' : Hp} {b : Addr} {o : HO} (s : Same H H') (e : H b = some o) : H' b = some o := s b o e
theorem cut_take (xs : List V) (i : Nat) : cutV xs none (some (i : Int)) = xs.take i := by
  unfold cutV
  rw [HT.sIx_none, HT.sIx_nat, List.drop_zero, Nat.sub_zero]
  by_cases h : i ≤ xs.length
  · rw [Nat.min_eq_left h]
  · rw [Nat.min_eq_right (by omega), List.take_of_length_le (by omega), List.take_of_length_le (by omega)]
theorem cut_drop (xs : List V) (i : Nat) : cutV xs (some (i : Int)) none = xs.drop i := by
  unfold cutV
  rw [HT.sIx_none, HT.sIx_nat]
  by_cases h : i ≤ xs.length
  · rw [Nat.min_eq_left h, List.take_of_length_le (by rw [List.length_drop]; omega)]
  · rw [Nat.min_eq_right (by omega), List.drop_of_length_le (by omega), List.drop_of_length_le (by omega), List.take_nil]
theorem take_snoc {α : Type} {l : List α} {i : Nat} {x : α} (h : l[i]? = some x) : l.take (i + 1) = l.take i ++ [x] := by
  rw [List.take_add_one, h]
  rfl
theorem item_lt {α : Type} {l : List α} {i : Nat} {x : α} (h : l[i]? = some x) : i < l.length := (List.getElem?_eq_some_iff.mp h).1
theorem small (n : Nat) (h : n ≤ 60000) : n < sizeLine := Nat.lt_of_le_of_lt h (by decide)
theorem getD_item {α : Type} {l : List α} {i : Nat} {x d : α} (h : l[i]? = some x) : l.getD i d = x := by rw [List.getD_eq_getElem?_getD, h]; rfl
theorem seq_off {K : PySem.W.Frag} {H : Hp} {a b : Addr} {xs : List V} {o : HO} (h : SqL K H a xs) (n : a ≠ b) : SqL K (upd H b o) a xs := by
  rcases h with (h | ⟨u, h⟩) | h
  · exact .inl (.inl (by rw [upd_ne n]; exact h))
  · exact .inl (.inr ⟨u, by rw [upd_ne n]; exact h⟩)
  · exact .inr h
/-- one more thing at a place that was free at the entry -/
theorem same_put {H H' : Hp} {p : Addr} {o : HO} (s : Same H H') (n : H p = none) : Same H (upd H' p o) := fun b u e => by
  rw [upd_ne (ne_of_none e n)]
  exact s b u e
theorem item_set {α : Type} {l : List α} {i j : Nat} {x y : α} (h : (l.set i x)[j]? = some y) : (i = j ∧ y = x ∧ j < l.length) ∨ (i ≠ j ∧ l[j]? = some y) := by
  rw [List.getElem?_set] at h
  by_cases e : i = j
  · subst e
    rw [if_pos rfl] at h
    split at h
    · exact .inl ⟨rfl, (Option.some.inj h).symm, by assumption⟩
    · cases h
  · rw [if_neg e] at h
    exact .inr ⟨e, h⟩
theorem same_none {H H' : Hp} {b : Addr} (s : Same H H') (n : H' b = none) : H b = none := by
  cases q : H b with
  | none => rfl
  | some o => rw [s _ _ q] at n; cases n
theorem getD_set {w : List Int} {i k : Nat} {v : Int} (h : k < w.length) : (w.set i v).getD k 0 = if i = k then v else w.getD k 0 := by
  rw [List.getD_eq_getElem?_getD, List.getElem?_set]
  split
  · next e =>
    subst e
    rw [if_pos h]
    rfl
  · rw [List.getD_eq_getElem?_getD]
/-! data: == of lists of ints, of pairs -/
theorem eqvAll_ints : ∀ xs ys : List Int, PyData.eqvAll (xs.map .int) (ys.map .int) = decide (xs = ys)
  | [], [] => by simp [PyData.eqvAll]
  | [], _ :: _ => by simp [PyData.eqvAll]
  | _ :: _, [] => by simp [PyData.eqvAll]
  | x :: xs, y :: ys => by
    simp only [List.map_cons, PyData.eqvAll, PyData.eqv, eqvAll_ints xs ys]
    by_cases h : x = y <;> by_cases k : xs = ys <;> simp [h, k]
theorem canLayAll_ints : ∀ xs : List Int, PyData.canLayAll0 (xs.map .int) = true
  | [] => rfl
  | x :: xs => by simp [PyData.canLayAll0, PyData.canLay0, canLayAll_ints xs]
theorem depthAll_ints : ∀ xs : List Int, PyData.depthAll (xs.map .int) = 0
  | [] => rfl
  | x :: xs => by simp [PyData.depthAll, PyData.depth, depthAll_ints xs]
theorem shaped_ints (xs : List Int) : SeqAt.shaped (.list (xs.map .int)) = true := by
  simp [SeqAt.shaped, PyData.canLay0, canLayAll_ints, PyData.depth, depthAll_ints]
theorem dpAll_ints {K : PySem.W.Frag} {H : Hp} : ∀ xs : List Int, DpAll K H (xs.map V.int) (xs.map .int)
  | [] => .nil
  | x :: xs => .cons (.int x) (dpAll_ints xs)
theorem dp_ints {K : PySem.W.Frag} {H : Hp} {a : Addr} {xs : List Int} (h : SqL K H a (xs.map V.int)) : Dp K H (.ref a) (.list (xs.map .int)) := .lst h (dpAll_ints xs)
theorem eqv_ints (xs ys : List Int) : PyData.eqv (.list (xs.map .int)) (.list (ys.map .int)) = decide (xs = ys) := by
  simp only [PyData.eqv]
  exact eqvAll_ints xs ys
/-- rows of ints -/
def rowD (xs : List Int) : PyData := .list (xs.map .int)
theorem rows_data : ∀ xss : List (List Int), PyData.canLayAll0 (xss.map rowD) = true ∧ PyData.depthAll (xss.map rowD) ≤ 1
  | [] => ⟨rfl, Nat.zero_le _⟩
  | xs :: xss => by
    obtain ⟨h1, h2⟩ := rows_data xss
    refine ⟨by simp [PyData.canLayAll0, PyData.canLay0, rowD, canLayAll_ints, h1], ?_⟩
    simp only [List.map_cons, PyData.depthAll, rowD, PyData.depth, depthAll_ints]
    omega
theorem rows_shaped (xss : List (List Int)) : SeqAt.shaped (.list (xss.map rowD)) = true := by
  obtain ⟨h1, h2⟩ := rows_data xss
  have e : PyData.depth (.list (xss.map rowD)) = PyData.depthAll (xss.map rowD) + 1 := by simp only [PyData.depth]
  unfold SeqAt.shaped
  rw [Bool.and_eq_true]
  exact ⟨by simp only [PyData.canLay0]; exact h1, decide_eq_true (by rw [e]; omega)⟩
theorem eqvAll_rows : ∀ xss yss : List (List Int), PyData.eqvAll (xss.map rowD) (yss.map rowD) = decide (xss = yss)
  | [], [] => by simp [PyData.eqvAll]
  | [], _ :: _ => by simp [PyData.eqvAll]
  | _ :: _, [] => by simp [PyData.eqvAll]
  | x :: xs, y :: ys => by
    have h := eqv_ints x y
    simp only [List.map_cons, PyData.eqvAll, rowD, eqvAll_rows xs ys, h]
    by_cases h : x = y <;> by_cases k : xs = ys <;> simp [h, k]
theorem eqv_rows (xss yss : List (List Int)) : PyData.eqv (.list (xss.map rowD)) (.list (yss.map rowD)) = decide (xss = yss) := by
  simp only [PyData.eqv]
  exact eqvAll_rows xss yss
theorem dp_two {K : PySem.W.Frag} {H : Hp} {a b c : Addr} {xs ys : List Int} (h : SqL K H a [V.ref b, V.ref c]) (hb : SqL K H b (xs.map V.int)) (hc : SqL K H c (ys.map V.int)) : Dp K H (.ref a) (.list ([xs, ys].map rowD)) :=
  .lst h (.cons (dp_ints hb) (.cons (dp_ints hc) .nil))
/-! xs[i] op= e, i not below 0 -/
def rGetL (K : PySem.W.Frag) : V → V → Hp → VK → Prop := fun x y H Q => ∃ (p : Addr) (xs : List V) (i : Int) (j : Nat) (v : V), x = .ref p ∧ y = .int i ∧ i = (j : Int) ∧ SqL K H p xs ∧ xs[j]? = some v ∧ Q v H
theorem pget_list {X : Cx} : PGet X (rGetL X.K) := by
  intro pins s σ H o i ov iv Q I ro ri h
  obtain ⟨p, xs, _, j, v, rfl, rfl, rfl, hS, hv, q⟩ := h
  cases ro
  obtain ⟨t, rfl⟩ := ri
  obtain ⟨its, r, pl, hz⟩ := I.list hS
  obtain ⟨u, hu, ru⟩ := r.get hv
  have hl : j < xs.length := (List.getElem?_eq_some_iff.mp hv).1
  have hn := line63
  exact PySem.wpAny_getItem_list pl.isList (by omega) (by omega) (by rw [Int.toNat_natCast]; simpa using hu) ⟨v, H, I, ru, q⟩
theorem rep_zero (n : Nat) : (List.replicate n [V.int 0]).flatten = (List.replicate n (0 : Int)).map V.int := by
  induction n with
  | zero => rfl
  | succ n ih => rw [List.replicate_succ, List.flatten_cons, ih, List.replicate_succ]; rfl
theorem pev_rep (n : Nat) (x : Zp) : pev (List.replicate n (0 : Int)) x = 0 := pev_zeros (fun w m => by rw [(List.mem_replicate.mp m).2]; exact z_zero) x
theorem ixN_nat {n j : Nat} (h : j < n) : ixN n (j : Int) = some j := by
  unfold ixN
  rw [if_pos (by omega), if_pos (by omega), Int.toNat_natCast]
/-- a list of pairs of ints stands at p -/
def PtsAt (K : PySem.W.Frag) (H : Hp) (p : Addr) (ps : List (Int × Int)) : Prop := ∃ L : List (Addr × Int × Int), SqL K H p (L.map fun e => V.ref e.1) ∧ L.map (·.2) = ps ∧ ∀ e ∈ L, SqT K H e.1 [.int e.2.1, .int e.2.2]
theorem PtsAt.same {K : PySem.W.Frag} {H H' : Hp} {p : Addr} {ps : List (Int × Int)} (h : PtsAt K H p ps) (s : Same H H') : PtsAt K H' p ps := by
  obtain ⟨L, h1, h2, h3⟩ := h
  exact ⟨L, s.seq h1, h2, fun e m => s.tup (h3 e m)⟩
theorem PtsAt.old {K : PySem.W.Frag} {H : Hp} {p : Addr} {ps : List (Int × Int)} (h : PtsAt K H p ps) : ∃ as : List Addr, SqL K H p (as.map V.ref) ∧ as.length = ps.length ∧
    ∀ (i : Nat) (t : Addr) (q : Int × Int), as[i]? = some t → ps[i]? = some q → SqT K H t [.int q.1, .int q.2] := by
  obtain ⟨L, h1, rfl, h3⟩ := h
  refine ⟨L.map (·.1), by rw [List.map_map]; exact h1, by simp, fun i t q a b => ?_⟩
  rw [List.getElem?_map] at a b
  cases e : L[i]? with
  | none => rw [e] at a; cases a
  | some u =>
    rw [e] at a b
    cases a
    cases b
    exact h3 u (List.mem_of_getElem? e)
/-- an item of the list: a pair -/
theorem pts_item {K : PySem.W.Frag} {H : Hp} {as : List Addr} {ps : List (Int × Int)} (hl : as.length = ps.length) (h : ∀ (i : Nat) (t : Addr) (q : Int × Int), as[i]? = some t → ps[i]? = some q → SqT K H t [.int q.1, .int q.2])
    {i : Nat} {y : V} (hi : (as.map V.ref)[i]? = some y) : ∃ t q, y = .ref t ∧ as[i]? = some t ∧ ps[i]? = some q ∧ SqT K H t [.int q.1, .int q.2] := by
  rw [List.getElem?_map] at hi
  cases e : as[i]? with
  | none => rw [e] at hi; cases hi
  | some t =>
    rw [e] at hi
    have lt := item_lt e
    have e2 : ps[i]? = some ps[i] := List.getElem?_eq_getElem (by omega)
    exact ⟨t, _, (Option.some.inj hi).symm, rfl, e2, h i t _ e e2⟩
theorem words_apart {ps : List Int} : (ps.map (· % 65521)).Nodup ↔ Apart ps := by
  unfold Apart List.Nodup
  rw [List.pairwise_map, List.pairwise_map]
  constructor
  · intro h
    exact h.imp fun {a b} n e => n (z_mod_eq e)
  · intro h
    exact h.imp fun {a b} n e => n (z_eq.mpr e)
theorem apart_words {ps : List Int} : Apart (ps.map (· % 65521)) ↔ Apart ps := by
  unfold Apart
  rw [List.map_map, show (z ∘ fun x : Int => x % 65521) = z from funext fun a => z_mod a]
/-- data of pairs -/
def pairD (q : Int × Int) : PyData := .tuple [.int q.1, .int q.2]
theorem pairs_data : ∀ ps : List (Int × Int), PyData.canLayAll0 (ps.map pairD) = true ∧ PyData.depthAll (ps.map pairD) ≤ 1 ∧ PyData.eqvAll (ps.map pairD) (ps.map pairD) = true
  | [] => ⟨rfl, Nat.zero_le _, by simp [PyData.eqvAll]⟩
  | q :: ps => by
    obtain ⟨h1, h2, h3⟩ := pairs_data ps
    refine ⟨by simp [PyData.canLayAll0, PyData.canLay0, pairD, h1], ?_, by simp [PyData.eqvAll, PyData.eqv, pairD, h3]⟩
    simp only [List.map_cons, PyData.depthAll, pairD, PyData.depth]
    omega
theorem pairs_shaped (ps : List (Int × Int)) : SeqAt.shaped (.list (ps.map pairD)) = true := by
  obtain ⟨h1, h2, _⟩ := pairs_data ps
  have e : PyData.depth (.list (ps.map pairD)) = PyData.depthAll (ps.map pairD) + 1 := by simp only [PyData.depth]
  unfold SeqAt.shaped
  rw [Bool.and_eq_true]
  exact ⟨by simp only [PyData.canLay0]; exact h1, decide_eq_true (by rw [e]; omega)⟩
theorem pairs_eqv (ps : List (Int × Int)) : PyData.eqv (.list (ps.map pairD)) (.list (ps.map pairD)) = true := by
  simp only [PyData.eqv]
  exact (pairs_data ps).2.2
theorem PtsAt.dp {K : PySem.W.Frag} {H : Hp} {p : Addr} {ps : List (Int × Int)} (h : PtsAt K H p ps) : Dp K H (.ref p) (.list (ps.map pairD)) := by
  obtain ⟨L, h1, rfl, h3⟩ := h
  refine .lst h1 ?_
  have : ∀ M : List (Addr × Int × Int), (∀ e ∈ M, SqT K H e.1 [.int e.2.1, .int e.2.2]) → DpAll K H (M.map fun e => V.ref e.1) ((M.map (·.2)).map pairD) := by
    intro M
    induction M with
    | nil => intro _; exact .nil
    | cons e M ih => exact fun g => .cons (.tup (g e (by simp)) (.cons (.int _) (.cons (.int _) .nil))) (ih fun u m => g u (List.mem_cons_of_mem _ m))
  exact this L h3
/-- where things stand -/
structure Ad where
  f_is_present : Addr
  d_is_present : FuncData
  f_sector_at : Addr
  d_sector_at : FuncData
  f_inverse : Addr
  d_inverse : FuncData
  f_weight : Addr
  d_weight : FuncData
  f_weights : Addr
  d_weights : FuncData
  f_check_lengths : Addr
  d_check_lengths : FuncData
  f_piece_at : Addr
  d_piece_at : FuncData
  f_encode : Addr
  d_encode : FuncData
  f_present_numbers : Addr
  d_present_numbers : FuncData
  f_recover : Addr
  d_recover : FuncData
  f_check_words : Addr
  d_check_words : FuncData
  f_is_place : Addr
  d_is_place : FuncData
  f_seal : Addr
  d_seal : FuncData
  f_unseal : Addr
  d_unseal : FuncData
  f_is_whole : Addr
  d_is_whole : FuncData
  f_choose_disks : Addr
  d_choose_disks : FuncData
  f_piece_size : Addr
  d_piece_size : FuncData
  f_data_pieces : Addr
  d_data_pieces : FuncData
  f_piece_requests : Addr
  d_piece_requests : FuncData
  f_write_stripe : Addr
  d_write_stripe : FuncData
  f_good_piece : Addr
  d_good_piece : FuncData
  f_read_stripe : Addr
  d_read_stripe : FuncData
  f_law_pot : Addr
  d_law_pot : FuncData
  f_law_next : Addr
  d_law_next : FuncData
  f_law_add : Addr
  d_law_add : FuncData
  f_law_drop : Addr
  d_law_drop : FuncData
  f_law_put : Addr
  d_law_put : FuncData
  f_law_looks_right : Addr
  d_law_looks_right : FuncData
  f_law : Addr
  d_law : FuncData
  f_Space_init : Addr
  d_Space_init : FuncData
  f_Space_take : Addr
  d_Space_take : FuncData
  f_Space_give : Addr
  d_Space_give : FuncData
  f_Space_settle : Addr
  d_Space_settle : FuncData
  f_Space_free_count : Addr
  d_Space_free_count : FuncData
  f_Space_used_rows : Addr
  d_Space_used_rows : FuncData
  f_Space_waiting_rows : Addr
  d_Space_waiting_rows : FuncData
  f_Store_init : Addr
  d_Store_init : FuncData
  f_Store_look : Addr
  d_Store_look : FuncData
  f_Store_put : Addr
  d_Store_put : FuncData
  f_Store_get : Addr
  d_Store_get : FuncData
  f_Store_commit : Addr
  d_Store_commit : FuncData
  f_Store_forget : Addr
  d_Store_forget : FuncData
  f_Store_add_member : Addr
  d_Store_add_member : FuncData
  f_Store_drop_member : Addr
  d_Store_drop_member : FuncData
  f_Store_free_counts : Addr
  d_Store_free_counts : FuncData
  c_PoolError : Addr
  c_InvalidArgument : Addr
  c_NotEnoughPieces : Addr
  c_NoSpace : Addr
  c_NotEnoughDisks : Addr
  c_Damaged : Addr
  c_Space : Addr
  c_Store : Addr
  e_Store_put : Addr
  wd : World
/-- what the top has written -/
structure Txt (w : World) (K : PySem.W.Frag) (mg : Str → Option Value) (a : Ad) : Prop where
  F_is_present : Fun K "is_present" "is_present" s_is_present a.f_is_present a.d_is_present
  g_is_present : mg "is_present" = some (.ref a.f_is_present)
  d_is_present : Binds K a.d_is_present ["images", "disk"] []
  F_sector_at : Fun K "sector_at" "sector_at" s_sector_at a.f_sector_at a.d_sector_at
  g_sector_at : mg "sector_at" = some (.ref a.f_sector_at)
  d_sector_at : Binds K a.d_sector_at ["images", "disk", "row"] []
  F_inverse : Fun K "inverse" "inverse" s_inverse a.f_inverse a.d_inverse
  g_inverse : mg "inverse" = some (.ref a.f_inverse)
  d_inverse : Binds K a.d_inverse ["a"] []
  F_weight : Fun K "weight" "weight" s_weight a.f_weight a.d_weight
  g_weight : mg "weight" = some (.ref a.f_weight)
  d_weight : Binds K a.d_weight ["place", "others", "x"] []
  F_weights : Fun K "weights" "weights" s_weights a.f_weights a.d_weights
  g_weights : mg "weights" = some (.ref a.f_weights)
  d_weights : Binds K a.d_weights ["places", "x"] []
  F_check_lengths : Fun K "check_lengths" "check_lengths" s_check_lengths a.f_check_lengths a.d_check_lengths
  g_check_lengths : mg "check_lengths" = some (.ref a.f_check_lengths)
  d_check_lengths : Binds K a.d_check_lengths ["pieces"] []
  F_piece_at : Fun K "piece_at" "piece_at" s_piece_at a.f_piece_at a.d_piece_at
  g_piece_at : mg "piece_at" = some (.ref a.f_piece_at)
  d_piece_at : Binds K a.d_piece_at ["known", "places", "number"] []
  F_encode : Fun K "encode" "encode" s_encode a.f_encode a.d_encode
  g_encode : mg "encode" = some (.ref a.f_encode)
  d_encode : Binds K a.d_encode ["pieces", "parity"] []
  F_present_numbers : Fun K "present_numbers" "present_numbers" s_present_numbers a.f_present_numbers a.d_present_numbers
  g_present_numbers : mg "present_numbers" = some (.ref a.f_present_numbers)
  d_present_numbers : Binds K a.d_present_numbers ["pieces", "data"] []
  F_recover : Fun K "recover" "recover" s_recover a.f_recover a.d_recover
  g_recover : mg "recover" = some (.ref a.f_recover)
  d_recover : Binds K a.d_recover ["pieces", "data"] []
  F_check_words : Fun K "check_words" "check_words" s_check_words a.f_check_words a.d_check_words
  g_check_words : mg "check_words" = some (.ref a.f_check_words)
  d_check_words : Binds K a.d_check_words ["words"] []
  F_is_place : Fun K "is_place" "is_place" s_is_place a.f_is_place a.d_is_place
  g_is_place : mg "is_place" = some (.ref a.f_is_place)
  d_is_place : Binds K a.d_is_place ["kind", "disk", "row"] []
  F_seal : Fun K "seal" "seal" s_seal a.f_seal a.d_seal
  g_seal : mg "seal" = some (.ref a.f_seal)
  d_seal : Binds K a.d_seal ["kind", "disk", "row", "stamp", "payload"] []
  F_unseal : Fun K "unseal" "unseal" s_unseal a.f_unseal a.d_unseal
  g_unseal : mg "unseal" = some (.ref a.f_unseal)
  d_unseal : Binds K a.d_unseal ["sector", "kind", "disk", "row"] []
  F_is_whole : Fun K "is_whole" "is_whole" s_is_whole a.f_is_whole a.d_is_whole
  g_is_whole : mg "is_whole" = some (.ref a.f_is_whole)
  d_is_whole : Binds K a.d_is_whole ["sector"] []
  F_choose_disks : Fun K "choose_disks" "choose_disks" s_choose_disks a.f_choose_disks a.d_choose_disks
  g_choose_disks : mg "choose_disks" = some (.ref a.f_choose_disks)
  d_choose_disks : Binds K a.d_choose_disks ["candidates", "width"] []
  F_piece_size : Fun K "piece_size" "piece_size" s_piece_size a.f_piece_size a.d_piece_size
  g_piece_size : mg "piece_size" = some (.ref a.f_piece_size)
  d_piece_size : Binds K a.d_piece_size ["length", "data"] []
  F_data_pieces : Fun K "data_pieces" "data_pieces" s_data_pieces a.f_data_pieces a.d_data_pieces
  g_data_pieces : mg "data_pieces" = some (.ref a.f_data_pieces)
  d_data_pieces : Binds K a.d_data_pieces ["words", "data"] []
  F_piece_requests : Fun K "piece_requests" "piece_requests" s_piece_requests a.f_piece_requests a.d_piece_requests
  g_piece_requests : mg "piece_requests" = some (.ref a.f_piece_requests)
  d_piece_requests : Binds K a.d_piece_requests ["images", "places", "stamp", "pieces", "numbers"] []
  F_write_stripe : Fun K "write_stripe" "write_stripe" s_write_stripe a.f_write_stripe a.d_write_stripe
  g_write_stripe : mg "write_stripe" = some (.ref a.f_write_stripe)
  d_write_stripe : Binds K a.d_write_stripe ["images", "places", "stamp", "words", "data"] []
  F_good_piece : Fun K "good_piece" "good_piece" s_good_piece a.f_good_piece a.d_good_piece
  g_good_piece : mg "good_piece" = some (.ref a.f_good_piece)
  d_good_piece : Binds K a.d_good_piece ["images", "place", "stamp", "size"] []
  F_read_stripe : Fun K "read_stripe" "read_stripe" s_read_stripe a.f_read_stripe a.d_read_stripe
  g_read_stripe : mg "read_stripe" = some (.ref a.f_read_stripe)
  d_read_stripe : Binds K a.d_read_stripe ["images", "places", "stamp", "length", "data"] []
  F_law_pot : Fun K "_law_pot" "_law_pot" s_law_pot a.f_law_pot a.d_law_pot
  g_law_pot : mg "_law_pot" = some (.ref a.f_law_pot)
  d_law_pot : Binds K a.d_law_pot ["script"] []
  F_law_next : Fun K "_law_next" "_law_next" s_law_next a.f_law_next a.d_law_next
  g_law_next : mg "_law_next" = some (.ref a.f_law_next)
  d_law_next : Binds K a.d_law_next ["pot", "limit"] []
  F_law_add : Fun K "_law_add" "_law_add" s_law_add a.f_law_add a.d_law_add
  g_law_add : mg "_law_add" = some (.ref a.f_law_add)
  d_law_add : Binds K a.d_law_add ["store", "disk"] []
  F_law_drop : Fun K "_law_drop" "_law_drop" s_law_drop a.f_law_drop a.d_law_drop
  g_law_drop : mg "_law_drop" = some (.ref a.f_law_drop)
  d_law_drop : Binds K a.d_law_drop ["store", "disk"] []
  F_law_put : Fun K "_law_put" "_law_put" s_law_put a.f_law_put a.d_law_put
  g_law_put : mg "_law_put" = some (.ref a.f_law_put)
  d_law_put : Binds K a.d_law_put ["store"] []
  F_law_looks_right : Fun K "_law_looks_right" "_law_looks_right" s_law_looks_right a.f_law_looks_right a.d_law_looks_right
  g_law_looks_right : mg "_law_looks_right" = some (.ref a.f_law_looks_right)
  d_law_looks_right : Binds K a.d_law_looks_right ["store", "used"] []
  F_law : Fun K "law" "law" s_law a.f_law a.d_law
  g_law : mg "law" = some (.ref a.f_law)
  d_law : Binds K a.d_law ["script"] []
  F_Space_init : Fun K "__init__" "Space.__init__" s_Space_init a.f_Space_init a.d_Space_init
  mk_Space : Mk K a.c_Space a.f_Space_init
  d_Space_init : Binds K a.d_Space_init ["self", "rows", "first"] []
  F_Space_take : Fun K "take" "Space.take" s_Space_take a.f_Space_take a.d_Space_take
  m_Space_take : Meth K a.c_Space "take" a.f_Space_take
  d_Space_take : Binds K a.d_Space_take ["self"] []
  F_Space_give : Fun K "give" "Space.give" s_Space_give a.f_Space_give a.d_Space_give
  m_Space_give : Meth K a.c_Space "give" a.f_Space_give
  d_Space_give : Binds K a.d_Space_give ["self", "row"] []
  F_Space_settle : Fun K "settle" "Space.settle" s_Space_settle a.f_Space_settle a.d_Space_settle
  m_Space_settle : Meth K a.c_Space "settle" a.f_Space_settle
  d_Space_settle : Binds K a.d_Space_settle ["self"] []
  F_Space_free_count : Fun K "free_count" "Space.free_count" s_Space_free_count a.f_Space_free_count a.d_Space_free_count
  m_Space_free_count : Meth K a.c_Space "free_count" a.f_Space_free_count
  d_Space_free_count : Binds K a.d_Space_free_count ["self"] []
  F_Space_used_rows : Fun K "used_rows" "Space.used_rows" s_Space_used_rows a.f_Space_used_rows a.d_Space_used_rows
  m_Space_used_rows : Meth K a.c_Space "used_rows" a.f_Space_used_rows
  d_Space_used_rows : Binds K a.d_Space_used_rows ["self"] []
  F_Space_waiting_rows : Fun K "waiting_rows" "Space.waiting_rows" s_Space_waiting_rows a.f_Space_waiting_rows a.d_Space_waiting_rows
  m_Space_waiting_rows : Meth K a.c_Space "waiting_rows" a.f_Space_waiting_rows
  d_Space_waiting_rows : Binds K a.d_Space_waiting_rows ["self"] []
  F_Store_init : Fun K "__init__" "Store.__init__" s_Store_init a.f_Store_init a.d_Store_init
  mk_Store : Mk K a.c_Store a.f_Store_init
  d_Store_init : KBn K a.d_Store_init ["self", "data", "parity", "rows", "members", "epoch"] 1 ["data", "parity", "rows", "members", "epoch"] (fun us ws => us ++ ws) (fun vs zs => vs ++ zs)
  F_Store_look : Fun K "look" "Store.look" s_Store_look a.f_Store_look a.d_Store_look
  m_Store_look : Meth K a.c_Store "look" a.f_Store_look
  d_Store_look : Binds K a.d_Store_look ["self", "images"] []
  F_Store_put : Fun K "put" "Store.put" s_Store_put a.f_Store_put a.d_Store_put
  m_Store_put : Meth K a.c_Store "put" a.f_Store_put
  d_Store_put : Binds K a.d_Store_put ["self", "words", "avoid"] [.ref a.e_Store_put]
  kb_Store_put : KBn K a.d_Store_put ["self", "words", "avoid"] 2 ["avoid"] (fun us ws => us ++ ws) (fun vs zs => vs ++ zs)
  e_Store_put : KTp K a.e_Store_put []
  F_Store_get : Fun K "get" "Store.get" s_Store_get a.f_Store_get a.d_Store_get
  m_Store_get : Meth K a.c_Store "get" a.f_Store_get
  d_Store_get : Binds K a.d_Store_get ["self", "pointer"] []
  F_Store_commit : Fun K "commit" "Store.commit" s_Store_commit a.f_Store_commit a.d_Store_commit
  m_Store_commit : Meth K a.c_Store "commit" a.f_Store_commit
  d_Store_commit : Binds K a.d_Store_commit ["self", "live"] []
  F_Store_forget : Fun K "_forget" "Store._forget" s_Store_forget a.f_Store_forget a.d_Store_forget
  m_Store_forget : Meth K a.c_Store "_forget" a.f_Store_forget
  d_Store_forget : Binds K a.d_Store_forget ["self", "pointers"] []
  F_Store_add_member : Fun K "add_member" "Store.add_member" s_Store_add_member a.f_Store_add_member a.d_Store_add_member
  m_Store_add_member : Meth K a.c_Store "add_member" a.f_Store_add_member
  d_Store_add_member : Binds K a.d_Store_add_member ["self", "disk"] []
  F_Store_drop_member : Fun K "drop_member" "Store.drop_member" s_Store_drop_member a.f_Store_drop_member a.d_Store_drop_member
  m_Store_drop_member : Meth K a.c_Store "drop_member" a.f_Store_drop_member
  d_Store_drop_member : Binds K a.d_Store_drop_member ["self", "disk"] []
  F_Store_free_counts : Fun K "free_counts" "Store.free_counts" s_Store_free_counts a.f_Store_free_counts a.d_Store_free_counts
  m_Store_free_counts : Meth K a.c_Store "free_counts" a.f_Store_free_counts
  d_Store_free_counts : Binds K a.d_Store_free_counts ["self"] []
  g_PRIME : ∃ u, mg "PRIME" = some u ∧ RelV (.int 65521) u
  g_MAX_PIECES : ∃ u, mg "MAX_PIECES" = some u ∧ RelV (.int 8) u
  g_MAX_DISKS : ∃ u, mg "MAX_DISKS" = some u ∧ RelV (.int 8) u
  g_MAX_PAYLOAD : ∃ u, mg "MAX_PAYLOAD" = some u ∧ RelV (.int 1000) u
  g_MAX_ROWS : ∃ u, mg "MAX_ROWS" = some u ∧ RelV (.int 4000) u
  g_FIRST_ROW : ∃ u, mg "FIRST_ROW" = some u ∧ RelV (.int 18) u
  g_NEW : ∃ u, mg "NEW" = some u ∧ RelV (.int 1) u
  g_OLD : ∃ u, mg "OLD" = some u ∧ RelV (.int 2) u
  g_WAITING : ∃ u, mg "WAITING" = some u ∧ RelV (.int 3) u
  g_LABEL : ∃ u, mg "LABEL" = some u ∧ RelV (.int 1) u
  g_PIECE : ∃ u, mg "PIECE" = some u ∧ RelV (.int 3) u
  g_HEADER_WORDS : ∃ u, mg "HEADER_WORDS" = some u ∧ RelV (.int 6) u
  g_CHECK_WORDS : ∃ u, mg "CHECK_WORDS" = some u ∧ RelV (.int 2) u
  hw : a.wd = w
  n_len : mg "len" = none
  n_enumerate : mg "enumerate" = none
  n_sum : mg "sum" = none
  n_zip : mg "zip" = none
  n_list : mg "list" = none
  n_range : mg "range" = none
  n_tuple : mg "tuple" = none
  n_min : mg "min" = none
  n_max : mg "max" = none
  n_sorted : mg "sorted" = none
  n_int : mg "int" = none
  n_abs : mg "abs" = none
  n_isinstance : mg "isinstance" = none
  n_dict : mg "dict" = none
  n_all : mg "all" = none
  g_Space : mg "Space" = some (.ref a.c_Space)
  cl_Space : Cls K a.c_Space
  na_Space_first : NoAttr K a.c_Space "_first"
  na_Space_lowest : NoAttr K a.c_Space "_lowest"
  na_Space_rows : NoAttr K a.c_Space "_rows"
  na_Space_states : NoAttr K a.c_Space "_states"
  g_Store : mg "Store" = some (.ref a.c_Store)
  cl_Store : Cls K a.c_Store
  na_Store_blocks : NoAttr K a.c_Store "_blocks"
  na_Store_images : NoAttr K a.c_Store "_images"
  na_Store_made : NoAttr K a.c_Store "_made"
  na_Store_memory : NoAttr K a.c_Store "_memory"
  na_Store_spaces : NoAttr K a.c_Store "_spaces"
  na_Store_data : NoAttr K a.c_Store "data"
  na_Store_epoch : NoAttr K a.c_Store "epoch"
  na_Store_members : NoAttr K a.c_Store "members"
  na_Store_parity : NoAttr K a.c_Store "parity"
  na_Store_rows : NoAttr K a.c_Store "rows"
  g_PoolError : mg "PoolError" = some (.ref a.c_PoolError)
  x_PoolError : PySem.W.excIn K a.c_PoolError [.type "ValueError", .type "Exception", .type "BaseException", .type "object"] "ValueError.__new__" = true
  k_PoolError : PySem.W.keepIn K (.ref a.c_PoolError) = true
  b_PoolError : PySem.W.subIn K (.ref a.c_PoolError) (.type "BaseException") = some true
  t_PoolError : PySem.W.typeIn K (.ref a.c_PoolError) = some (.type "type")
  E_PoolError : ExcC K a.c_PoolError
  g_InvalidArgument : mg "InvalidArgument" = some (.ref a.c_InvalidArgument)
  x_InvalidArgument : PySem.W.excIn K a.c_InvalidArgument [.type "ValueError", .type "Exception", .type "BaseException", .type "object"] "ValueError.__new__" = true
  k_InvalidArgument : PySem.W.keepIn K (.ref a.c_InvalidArgument) = true
  b_InvalidArgument : PySem.W.subIn K (.ref a.c_InvalidArgument) (.type "BaseException") = some true
  t_InvalidArgument : PySem.W.typeIn K (.ref a.c_InvalidArgument) = some (.type "type")
  E_InvalidArgument : ExcC K a.c_InvalidArgument
  g_NotEnoughPieces : mg "NotEnoughPieces" = some (.ref a.c_NotEnoughPieces)
  x_NotEnoughPieces : PySem.W.excIn K a.c_NotEnoughPieces [.type "ValueError", .type "Exception", .type "BaseException", .type "object"] "ValueError.__new__" = true
  k_NotEnoughPieces : PySem.W.keepIn K (.ref a.c_NotEnoughPieces) = true
  b_NotEnoughPieces : PySem.W.subIn K (.ref a.c_NotEnoughPieces) (.type "BaseException") = some true
  t_NotEnoughPieces : PySem.W.typeIn K (.ref a.c_NotEnoughPieces) = some (.type "type")
  E_NotEnoughPieces : ExcC K a.c_NotEnoughPieces
  g_NoSpace : mg "NoSpace" = some (.ref a.c_NoSpace)
  x_NoSpace : PySem.W.excIn K a.c_NoSpace [.type "ValueError", .type "Exception", .type "BaseException", .type "object"] "ValueError.__new__" = true
  k_NoSpace : PySem.W.keepIn K (.ref a.c_NoSpace) = true
  b_NoSpace : PySem.W.subIn K (.ref a.c_NoSpace) (.type "BaseException") = some true
  t_NoSpace : PySem.W.typeIn K (.ref a.c_NoSpace) = some (.type "type")
  E_NoSpace : ExcC K a.c_NoSpace
  g_NotEnoughDisks : mg "NotEnoughDisks" = some (.ref a.c_NotEnoughDisks)
  x_NotEnoughDisks : PySem.W.excIn K a.c_NotEnoughDisks [.type "ValueError", .type "Exception", .type "BaseException", .type "object"] "ValueError.__new__" = true
  k_NotEnoughDisks : PySem.W.keepIn K (.ref a.c_NotEnoughDisks) = true
  b_NotEnoughDisks : PySem.W.subIn K (.ref a.c_NotEnoughDisks) (.type "BaseException") = some true
  t_NotEnoughDisks : PySem.W.typeIn K (.ref a.c_NotEnoughDisks) = some (.type "type")
  E_NotEnoughDisks : ExcC K a.c_NotEnoughDisks
  g_Damaged : mg "Damaged" = some (.ref a.c_Damaged)
  x_Damaged : PySem.W.excIn K a.c_Damaged [.type "ValueError", .type "Exception", .type "BaseException", .type "object"] "ValueError.__new__" = true
  k_Damaged : PySem.W.keepIn K (.ref a.c_Damaged) = true
  b_Damaged : PySem.W.subIn K (.ref a.c_Damaged) (.type "BaseException") = some true
  t_Damaged : PySem.W.typeIn K (.ref a.c_Damaged) = some (.type "type")
  E_Damaged : ExcC K a.c_Damaged
  u_InvalidArgument_PoolError : PySem.W.exmOne K (.ref a.c_InvalidArgument) (.ref a.c_PoolError) = some true
  u_NotEnoughDisks_PoolError : PySem.W.exmOne K (.ref a.c_NotEnoughDisks) (.ref a.c_PoolError) = some true
  i_InvalidArgument_InvalidArgument : PySem.W.kitOne K (.ref a.c_InvalidArgument) (.ref a.c_InvalidArgument) = some true
  i_NotEnoughDisks_NotEnoughDisks : PySem.W.kitOne K (.ref a.c_NotEnoughDisks) (.ref a.c_NotEnoughDisks) = some true
/-! the promises -/
/-! the draws: a list of the script, a place in it, a rest, a seed -/
/-- at p stands a pot, its script's list at l -/
def Pot (H : Hp) (p l : Addr) : Prop := ∃ (ns : List Int) (i acc seed : Int), H p = some (.lst [.ref l, .int i, .int acc, .int seed]) ∧ H l = some (.lst (ns.map V.int)) ∧ 0 ≤ i ∧ 0 ≤ acc ∧ 0 ≤ seed ∧ seed < 2147483647
theorem Pot.ne {H : Hp} {p l : Addr} (h : Pot H p l) : l ≠ p := by
  obtain ⟨ns, i, acc, seed, h1, h2, _⟩ := h
  refine ne_of h2 h1 fun e => ?_
  have e1 := HO.lst.inj e
  cases ns with
  | nil => cases e1
  | cons a r => rw [List.map_cons] at e1; injection e1 with e2 _; cases e2
theorem Pot.same {H H' : Hp} {p l : Addr} (h : Pot H p l) (s : Same H H') : Pot H' p l := by
  obtain ⟨ns, i, acc, seed, h1, h2, h3⟩ := h
  exact ⟨ns, i, acc, seed, s _ _ h1, s _ _ h2, h3⟩
theorem Pot.only {H H' : Hp} {p l q : Addr} (h : Pot H p l) (s : Only q H H') (n1 : p ≠ q) (n2 : l ≠ q) : Pot H' p l := by
  obtain ⟨ns, i, acc, seed, h1, h2, h3⟩ := h
  exact ⟨ns, i, acc, seed, by rw [s _ n1]; exact h1, by rw [s _ n2]; exact h2, h3⟩
/-- a draw's answer below the limit -/
def sp_law_next (K : PySem.W.Frag) (a : Ad) : Sp := fun vs H Q _ => ∃ (p l : Addr) (m : Int), vs = [.ref p, .int m] ∧ Pot H p l ∧ 0 < m ∧ m < 1099511627776 ∧
  ∀ (v : Int) (H' : Hp), 0 ≤ v → v < m → Pot H' p l → Only p H H' → Q (.int v) H'
theorem sp_law_next_len {K : PySem.W.Frag} {a : Ad} {vs : List V} {H : Hp} {Q : VK} {E : XK} (h : sp_law_next K a vs H Q E) : vs.length = 2 := by
  obtain ⟨p, l, m, rfl, _⟩ := h
  rfl
def sp_law_pot (K : PySem.W.Frag) (a : Ad) : Sp := fun vs H Q _ => ∃ (s : Addr) (ns : List Int), vs = [.ref s] ∧ SqL K H s (ns.map V.int) ∧ ns.length ≤ 1000 ∧
  ∀ (p l : Addr) (H' : Hp), H p = none → H l = none → Same H H' → Pot H' p l → Q (.ref p) H'
theorem sp_law_pot_len {K : PySem.W.Frag} {a : Ad} {vs : List V} {H : Hp} {Q : VK} {E : XK} (h : sp_law_pot K a vs H Q E) : vs.length = 1 := by
  obtain ⟨s, ns, rfl, _⟩ := h
  rfl
/-- the law itself: True at every script -/
def sp_law0 (K : PySem.W.Frag) : Sp := fun vs H Q _ => ∃ (s : Addr) (ns : List Int), vs = [.ref s] ∧ SqL K H s (ns.map V.int) ∧ ns.length ≤ 63 ∧ ∀ H', Q (.bl true) H'
def sp_law (K : PySem.W.Frag) (a : Ad) : Sp := sp_law0 K
theorem sp_law_len {K : PySem.W.Frag} {a : Ad} {vs : List V} {H : Hp} {Q : VK} {E : XK} (h : sp_law K a vs H Q E) : vs.length = 1 := by
  obtain ⟨s, ns, rfl, _⟩ := h
  rfl
theorem int_item {ns : List Int} {i : Nat} {y : V} (h : (ns.map V.int)[i]? = some y) : ∃ z, ns[i]? = some z ∧ y = V.int z := by
  rw [List.getElem?_map] at h
  cases e : ns[i]? with
  | none => rw [e] at h; cases h
  | some z => rw [e] at h; exact ⟨z, rfl, (Option.some.inj h).symm⟩
/-- the pot's own object is no list of refs alone, no tuple -/
theorem Pot.list {H : Hp} {p l : Addr} (h : Pot H p l) : ∃ i acc seed : Int, H p = some (.lst [.ref l, .int i, .int acc, .int seed]) := by
  obtain ⟨ns, i, acc, seed, h1, _⟩ := h
  exact ⟨i, acc, seed, h1⟩
theorem But.seq {K : PySem.W.Frag} {H H' : Hp} {p a : Addr} {xs : List V} (b : But p H H') (n : a ≠ p) (h : SqL K H a xs) : SqL K H' a xs := by
  rcases h with (h | ⟨o, h⟩) | h
  · exact .inl (.inl (b _ _ h n))
  · exact .inl (.inr ⟨o, b _ _ h n⟩)
  · exact .inr h
theorem But.tup {K : PySem.W.Frag} {H H' : Hp} {p l a : Addr} {xs : List V} (P : Pot H p l) (b : But p H H') (h : SqT K H a xs) : SqT K H' a xs := by
  obtain ⟨i, acc, seed, hp⟩ := P.list
  rcases h with (h | ⟨o, h⟩) | h
  · exact .inl (.inl (b _ _ h (ne_of h hp (by intro q; cases q))))
  · exact .inl (.inr ⟨o, b _ _ h (ne_of h hp (by intro q; cases q))⟩)
  · exact .inr h
theorem Pot.noList {H : Hp} {p l a : Addr} (P : Pot H p l) {xs : List V} (h : H a = some (.lst xs)) (hx : ∀ i acc seed : Int, xs ≠ [.ref l, .int i, .int acc, .int seed]) : a ≠ p := by
  obtain ⟨i, acc, seed, hp⟩ := P.list
  exact ne_of h hp fun q => hx i acc seed (HO.lst.inj q)
theorem Pot.off {H : Hp} {p l q : Addr} (P : Pot H p l) (h : H q = none) : p ≠ q ∧ l ≠ q := by
  obtain ⟨_, _, _, _, g1, g2, _⟩ := P
  exact ⟨ne_of_none g1 h, ne_of_none g2 h⟩
theorem Pot.new {H : Hp} {p l q : Addr} {o : HO} (P : Pot H p l) (h : H q = none) : Pot (upd H q o) p l := P.same (Same.new h)
/-- an int is an int -/
def sp_law_is_int (K : PySem.W.Frag) (a : Ad) : Sp := fun vs H Q _ => ∃ x : Int, vs = [.int x] ∧ Q (.bl true) H
theorem sp_law_is_int_len {K : PySem.W.Frag} {a : Ad} {vs : List V} {H : Hp} {Q : VK} {E : XK} (h : sp_law_is_int K a vs H Q E) : vs.length = 1 := by
  obtain ⟨x, rfl, _⟩ := h
  rfl
def sp_inverse (K : PySem.W.Frag) (a : Ad) : Sp := fun vs H Q E => ∃ x : Int, vs = [.int x] ∧ (x % 65521 = 0 → ∀ H', Same H H' → E (.ref a.c_InvalidArgument) none H') ∧ (x % 65521 ≠ 0 → ∀ H', Same H H' → Q (.int (invP x)) H')
theorem sp_inverse_len {K : PySem.W.Frag} {a : Ad} {vs : List V} {H : Hp} {Q : VK} {E : XK} (h : sp_inverse K a vs H Q E) : vs.length = 1 := by
  obtain ⟨x, rfl, _⟩ := h
  rfl
def BadPts (ps : List (Int × Int)) : Prop := ps = [] ∨ ¬ Apart (ps.map (·.1))
def placesM (ps : List (Int × Int)) : List Int := (ps.map (·.1)).map (· % 65521)
def sp_distinct_places (K : PySem.W.Frag) (a : Ad) : Sp := fun vs H Q E => ∃ (p : Addr) (ps : List (Int × Int)), vs = [.ref p] ∧ PtsAt K H p ps ∧ ps.length ≤ 500 ∧
  (BadPts ps → ∀ H', Same H H' → E (.ref a.c_InvalidArgument) none H') ∧
  (¬ BadPts ps → ∀ (D : Addr) (H' : Hp), Same H H' → H D = none → H' D = some (.lst ((placesM ps).map V.int)) → Q (.ref D) H')
def sp_weight (K : PySem.W.Frag) (a : Ad) : Sp := fun vs H Q _ => ∃ (p : Int) (o : Addr) (os : List Int) (x : Int), vs = [.int p, .ref o, .int x] ∧ SqL K H o (os.map V.int) ∧ prodM os p 1 % 65521 ≠ 0 ∧
  ∀ H', Same H H' → Q (.int (wgt p os x)) H'
def sp_weights (K : PySem.W.Frag) (a : Ad) : Sp := fun vs H Q _ => ∃ (l : Addr) (ws : List Int) (x : Int), vs = [.ref l, .int x] ∧ H l = some (.lst (ws.map V.int)) ∧ Apart ws ∧ ws.length ≤ 500 ∧
  ∀ (D : Addr) (H' : Hp), Same H H' → H D = none → H' D = some (.lst ((weightsM ws x).map V.int)) → Q (.ref D) H'
def sp_value_at (K : PySem.W.Frag) (a : Ad) : Sp := fun vs H Q E => ∃ (p : Addr) (ps : List (Int × Int)) (x : Int), vs = [.ref p, .int x] ∧ PtsAt K H p ps ∧ ps.length ≤ 500 ∧
  (BadPts ps → ∀ H', Same H H' → E (.ref a.c_InvalidArgument) none H') ∧
  (¬ BadPts ps → ∀ H', Same H H' → Q (.int (valM (placesM ps) (ps.map (·.2)) x)) H')
theorem sp_distinct_places_len {K : PySem.W.Frag} {a : Ad} {vs : List V} {H : Hp} {Q : VK} {E : XK} (h : sp_distinct_places K a vs H Q E) : vs.length = 1 := by
  obtain ⟨p, ps, rfl, _⟩ := h
  rfl
theorem sp_weight_len {K : PySem.W.Frag} {a : Ad} {vs : List V} {H : Hp} {Q : VK} {E : XK} (h : sp_weight K a vs H Q E) : vs.length = 3 := by
  obtain ⟨p, o, os, x, rfl, _⟩ := h
  rfl
theorem sp_weights_len {K : PySem.W.Frag} {a : Ad} {vs : List V} {H : Hp} {Q : VK} {E : XK} (h : sp_weights K a vs H Q E) : vs.length = 2 := by
  obtain ⟨l, ws, x, rfl, _⟩ := h
  rfl
theorem sp_value_at_len {K : PySem.W.Frag} {a : Ad} {vs : List V} {H : Hp} {Q : VK} {E : XK} (h : sp_value_at K a vs H Q E) : vs.length = 2 := by
  obtain ⟨p, ps, x, rfl, _⟩ := h
  rfl
/-! rows, lines: lists of lists -/
def refs (E : List (Addr × List Int)) : List V := E.map fun e => V.ref e.1
theorem refs_len (E : List (Addr × List Int)) : (refs E).length = E.length := by simp [refs]
theorem refs_get {E : List (Addr × List Int)} {i : Nat} {e : Addr × List Int} (h : E[i]? = some e) : (refs E)[i]? = some (V.ref e.1) := by unfold refs; rw [List.getElem?_map, h]; rfl
theorem refs_item {E : List (Addr × List Int)} {i : Nat} {y : V} (h : (refs E)[i]? = some y) : ∃ e, E[i]? = some e ∧ y = V.ref e.1 := by
  unfold refs at h
  rw [List.getElem?_map] at h
  cases q : E[i]? with
  | none => rw [q] at h; cases h
  | some e => rw [q] at h; exact ⟨e, rfl, (Option.some.inj h).symm⟩
/-- rows that are read -/
def RL (K : PySem.W.Frag) (H : Hp) (R : Addr) (E : List (Addr × List Int)) : Prop := SqL K H R (refs E) ∧ ∀ e ∈ E, SqL K H e.1 (e.2.map V.int)
theorem RL.same {K : PySem.W.Frag} {H H' : Hp} {R : Addr} {E : List (Addr × List Int)} (h : RL K H R E) (s : Same H H') : RL K H' R E := ⟨s.seq h.1, fun e m => s.seq (h.2 e m)⟩
/-- lines that are changed -/
def LA (H : Hp) (L : Addr) (E : List (Addr × List Int)) : Prop := H L = some (.lst (refs E)) ∧ ∀ e ∈ E, H e.1 = some (.lst (e.2.map V.int)) ∧ e.1 ≠ L
theorem LA.same {H H' : Hp} {L : Addr} {E : List (Addr × List Int)} (h : LA H L E) (s : Same H H') : LA H' L E := ⟨s _ _ h.1, fun e m => ⟨s _ _ (h.2 e m).1, (h.2 e m).2⟩⟩
theorem LA.put {H : Hp} {L : Addr} {E' : List (Addr × List Int)} (h : ∀ e ∈ E', H e.1 = some (.lst (e.2.map V.int)) ∧ e.1 ≠ L) : LA (upd H L (.lst (refs E'))) L E' := ⟨upd_same, fun e m => ⟨by rw [upd_ne (h e m).2]; exact (h e m).1, (h e m).2⟩⟩
theorem LA.rl {K : PySem.W.Frag} {H : Hp} {L : Addr} {E : List (Addr × List Int)} (h : LA H L E) : RL K H L E := ⟨SqL.of h.1, fun e m => SqL.of (h.2 e m).1⟩
abbrev snds (E : List (Addr × List Int)) : List (List Int) := E.map (·.2)
theorem snds_get {E : List (Addr × List Int)} {i : Nat} {e : Addr × List Int} (h : E[i]? = some e) : (snds E).getD i [] = e.2 := getD_item (by rw [List.getElem?_map, h]; rfl)
theorem snds_len (E : List (Addr × List Int)) : (snds E).length = E.length := List.length_map _
theorem ints_pot {l : Addr} {xs : List Int} {i acc seed : Int} : xs.map V.int ≠ [.ref l, .int i, .int acc, .int seed] := fun e => by
  cases xs with
  | nil => cases e
  | cons a r => rw [List.map_cons] at e; injection e with e1 _; cases e1
theorem LA.but {H H' : Hp} {p l L : Addr} {F : List (Addr × List Int)} (h : LA H L F) (P : Pot H p l) (n : L ≠ p) (b : But p H H') : LA H' L F :=
  ⟨b _ _ h.1 n, fun e m => ⟨b _ _ (h.2 e m).1 (P.noList (h.2 e m).1 fun _ _ _ => ints_pot), (h.2 e m).2⟩⟩
/-! pieces of a stripe -/
def BadLen (rows : List (List Int)) : Prop := ∃ r ∈ rows, r.length ≠ (rows.getD 0 []).length
noncomputable def pieceM (ws : List Int) (rows : List (List Int)) (x : Int) (n : Nat) : List Int := (List.range n).map fun i => valM ws (rows.map fun r => r.getD i 0) x
def upto (n : Nat) : List Int := (List.range n).map fun (i : Nat) => (i : Int)
theorem upto_len (n : Nat) : (upto n).length = n := by simp [upto]
theorem upto_get {n i : Nat} (h : i < n) : (upto n).getD i 0 = (i : Int) := by
  apply getD_item
  simp [upto, h]
theorem upto_apart {n : Nat} (h : n ≤ 60000) : Apart (upto n) := by
  unfold Apart
  unfold upto List.Nodup
  rw [List.map_map, List.pairwise_map]
  refine List.Pairwise.imp_of_mem (fun {a b} ha hb hab e => ?_) (List.pairwise_lt_range (n := n))
  have h1 := List.mem_range.mp ha
  have h2 := List.mem_range.mp hb
  have this : (a : Int) % 65521 = (b : Int) % 65521 := z_mod_eq e
  have hab' : a < b := hab
  omega
/-- the i-th column of the rows, as a new tuple -/
def YCol (F : List (Addr × List Int)) : Nat → Hp → V → Hp → Prop := fun i H v H' => ∃ T, v = .ref T ∧ H T = none ∧ H' = upd H T (.tup (((snds F).map fun r => r.getD i 0).map V.int))
theorem cols_rows {K : PySem.W.Frag} {H : Hp} {i : Nat} : ∀ (F : List (Addr × List Int)) (ys : List V), (∀ e ∈ F, SqL K H e.1 (e.2.map V.int) ∧ i < e.2.length) → Cols K H i ((F.map (·.1)).map fun l => (l, false)) ys → ys = ((snds F).map fun r => r.getD i 0).map V.int
  | [], [], _, _ => rfl
  | [], _ :: _, _, h => False.elim h
  | _ :: _, [], _, h => False.elim h
  | e :: F, y :: ys, h, ⟨h1, h2⟩ => by
    obtain ⟨a, b⟩ := h e (by simp)
    have q : (e.2.map V.int)[i]? = some y := h1 _ a
    rw [List.getElem?_map, List.getElem?_eq_getElem b] at q
    have e1 : e.2.getD i 0 = e.2[i] := getD_item (List.getElem?_eq_getElem b)
    rw [cols_rows F ys (fun e' m => h e' (by simp [m])) h2]
    simp only [snds, List.map_cons, e1]
    rw [← Option.some.inj q]
theorem walk_cols {K : PySem.W.Frag} {F : List (Addr × List Int)} {n : Nat} (hne : F ≠ []) (hrow : ∀ e ∈ F, e.2.length = n) :
    Walk (Itn K ((F.map (·.1)).map fun l => (l, false))) n (fun H => ∀ e ∈ F, SqL K H e.1 (e.2.map V.int)) (YCol F) := by
  refine ⟨fun i H hi q l hl => ?_, fun H q => ?_, fun i H v H' hi q y => ?_⟩
  · obtain ⟨l', hl', rfl⟩ := List.mem_map.1 hl
    obtain ⟨e, me, rfl⟩ := List.mem_map.1 hl'
    have := hrow e me
    exact ⟨_, _, q e me, List.getElem?_eq_getElem (by rw [List.length_map]; omega)⟩
  · cases F with
    | nil => exact absurd rfl hne
    | cons e F => exact ⟨(e.1, false), _, _, rfl, q e (by simp), by rw [List.length_map, hrow e (by simp)]; exact Nat.le_refl _⟩
  · obtain ⟨T, ys, h1, h2, h3, h4⟩ := y
    have := cols_rows F ys (fun e m => ⟨q e m, by have := hrow e m; omega⟩) h4
    exact ⟨T, h1, h2, by rw [h3, this]⟩
theorem walk_zipM {K : PySem.W.Frag} {a b : Addr} {xs ys : List V} {n : Nat} (h1 : xs.length = n) (h2 : ys.length = n) :
    Walk (Itn K [(a, false), (b, true)]) n (fun H => SqL K H a xs ∧ SqT K H b ys) (YPair (fun i => xs[i]?) (fun i => ys[i]?)) := by
  refine ⟨fun i H hi q l hl => ?_, fun H q => ⟨(a, false), _, xs, rfl, q.1, by omega⟩, fun i H v H' hi q y => ?_⟩
  · rcases List.mem_cons.1 hl with rfl | hl
    · exact ⟨xs, _, q.1, List.getElem?_eq_getElem (by omega)⟩
    · rw [List.mem_singleton.1 hl]
      exact ⟨ys, _, q.2, List.getElem?_eq_getElem (by omega)⟩
  · obtain ⟨T, zs, e1, e2, e3, e4⟩ := y
    match zs, e4 with
    | [x, y], ⟨c1, c2, _⟩ => exact ⟨T, x, y, e1, e2, e3, c1 xs q.1, c2 ys q.2⟩
def sp_check_lengths (K : PySem.W.Frag) (a : Ad) : Sp := fun vs H Q E => ∃ (R : Addr) (F : List (Addr × List Int)), vs = [.ref R] ∧ RL K H R F ∧
  (BadLen (snds F) → ∀ H', Same H H' → E (.ref a.c_InvalidArgument) none H') ∧ (¬ BadLen (snds F) → ∀ H', Same H H' → Q .non H')
theorem sp_check_lengths_len {K : PySem.W.Frag} {a : Ad} {vs : List V} {H : Hp} {Q : VK} {E : XK} (h : sp_check_lengths K a vs H Q E) : vs.length = 1 := by
  obtain ⟨R, F, rfl, _⟩ := h
  rfl
def sp_piece_at (K : PySem.W.Frag) (a : Ad) : Sp := fun vs H Q _ => ∃ (R P : Addr) (F : List (Addr × List Int)) (ws : List Int) (x : Int) (n : Nat), vs = [.ref R, .ref P, .int x] ∧ RL K H R F ∧ H P = some (.lst (ws.map V.int)) ∧ Apart ws ∧ ws.length = F.length ∧ F ≠ [] ∧ F.length ≤ 8 ∧ n ≤ 500 ∧
  (∀ e ∈ F, e.2.length = n) ∧ ∀ (D : Addr) (H' : Hp), Same H H' → H D = none → H' D = some (.lst ((pieceM ws (snds F) x n).map V.int)) → Q (.ref D) H'
theorem sp_piece_at_len {K : PySem.W.Frag} {a : Ad} {vs : List V} {H : Hp} {Q : VK} {E : XK} (h : sp_piece_at K a vs H Q E) : vs.length = 3 := by
  obtain ⟨R, P, F, ws, x, n, rfl, _⟩ := h
  rfl
theorem but_none {p : Addr} {H H' : Hp} {b : Addr} (s : But p H H') (nb : b ≠ p) (n : H' b = none) : H b = none := by
  cases q : H b with
  | none => rfl
  | some o => rw [s _ _ q nb] at n; cases n
def sp_law_stripe (K : PySem.W.Frag) (a : Ad) : Sp := fun vs H Q _ => ∃ (p l : Addr) (d c n : Nat), vs = [.ref p, .int (d : Int), .int (c : Int), .int (n : Int)] ∧ Pot H p l ∧ d ≤ 20 ∧ c ≤ 20 ∧ n ≤ 20 ∧
  ∀ (D : Addr) (F : List (Addr × List Int)) (ps : List (List Int)) (H' : Hp), But p H H' → Pot H' p l → H D = none → LA H' D F → F.length = c → ps.length = n → (∀ ws ∈ ps, ws.length = d ∧ ∀ w ∈ ws, Wd w) → (∀ k < c, (snds F).getD k [] = ps.map fun ws => horn ws (k : Int)) → Q (.ref D) H'
theorem sp_law_stripe_len {K : PySem.W.Frag} {a : Ad} {vs : List V} {H : Hp} {Q : VK} {E : XK} (h : sp_law_stripe K a vs H Q E) : vs.length = 4 := by
  obtain ⟨p, l, d, c, n, rfl, _⟩ := h
  rfl
def BadEnc (rows : List (List Int)) (par : Int) : Prop := rows = [] ∨ par < 0 ∨ (rows.length : Int) + par > 8 ∨ BadLen rows
def sp_encode (K : PySem.W.Frag) (a : Ad) : Sp := fun vs H Q E => ∃ (R : Addr) (F : List (Addr × List Int)) (par : Int), vs = [.ref R, .int par] ∧ RL K H R F ∧ F.length ≤ 20 ∧ ((snds F).getD 0 []).length ≤ 500 ∧ -500 ≤ par ∧ par ≤ 500 ∧
  (BadEnc (snds F) par → ∀ H', Same H H' → E (.ref a.c_InvalidArgument) none H') ∧
  (¬ BadEnc (snds F) par → ∀ (D : Addr) (G : List (Addr × List Int)) (H' : Hp), Same H H' → H D = none → LA H' D G → snds G = (List.range par.toNat).map (fun k => pieceM (upto F.length) (snds F) ((F.length + k : Nat) : Int) ((snds F).getD 0 []).length) → Q (.ref D) H')
theorem sp_encode_len {K : PySem.W.Frag} {a : Ad} {vs : List V} {H : Hp} {Q : VK} {E : XK} (h : sp_encode K a vs H Q E) : vs.length = 2 := by
  obtain ⟨R, F, par, rfl, _⟩ := h
  rfl
/-! sealed sectors -/
def wts (ws : List Int) : List Int := (List.range ws.length).map fun (i : Nat) => (1 + (i : Int)) * ws.getD i 0
def ck1 (ws : List Int) : Int := ws.sum % 65521
def ck2 (ws : List Int) : Int := (wts ws).sum % 65521
def hdM (k d r e s : Int) (ws : List Int) : List Int := [k, d, r, e, s / 65521, s % 65521] ++ ws
def sealM (k d r e s : Int) (ws : List Int) : List Int := hdM k d r e s ws ++ [ck1 (hdM k d r e s ws), ck2 (hdM k d r e s ws)]
def Plc (k d r : Int) : Prop := (1 ≤ k ∧ k ≤ 3) ∧ (0 ≤ d ∧ d < 8) ∧ (0 ≤ r ∧ r < 4000)
def Stp (e s : Int) : Prop := (0 ≤ e ∧ e < 65521) ∧ (0 ≤ s ∧ s < 4293001441)
def BadSeal (k d r e s : Int) (ws : List Int) : Prop := ¬ Plc k d r ∨ ¬ Stp e s ∨ 1000 < ws.length
theorem range_getD (ws : List Int) : (List.range ws.length).map (fun (i : Nat) => ws.getD i 0) = ws := by
  refine List.ext_getElem (by simp) fun i h1 h2 => ?_
  simp [h2]
/-- the sums as they grow -/
def sm1 (ws : List Int) (i : Nat) : Int := ((List.range i).map fun (j : Nat) => ws.getD j 0).sum
def sm2 (ws : List Int) (i : Nat) : Int := ((List.range i).map fun (j : Nat) => (1 + (j : Int)) * ws.getD j 0).sum
theorem sum_snoc (xs : List Int) (x : Int) : (xs ++ [x]).sum = xs.sum + x := by rw [List.sum_append]; simp
theorem sm1_succ (ws : List Int) (i : Nat) : sm1 ws (i + 1) = sm1 ws i + ws.getD i 0 := by
  unfold sm1
  rw [List.range_succ, List.map_append]
  exact sum_snoc _ _
theorem sm2_succ (ws : List Int) (i : Nat) : sm2 ws (i + 1) = sm2 ws i + (1 + (i : Int)) * ws.getD i 0 := by
  unfold sm2
  rw [List.range_succ, List.map_append]
  exact sum_snoc _ _
theorem ck1_sm (ws : List Int) : ck1 ws = sm1 ws ws.length % 65521 := by unfold ck1 sm1; rw [range_getD]
theorem ck2_sm (ws : List Int) : ck2 ws = sm2 ws ws.length % 65521 := rfl
theorem hdM_length (k d r e s : Int) (ws : List Int) : (hdM k d r e s ws).length = ws.length + 6 := by simp [hdM]
theorem sealM_length (k d r e s : Int) (ws : List Int) : (sealM k d r e s ws).length = ws.length + 8 := by simp [sealM, hdM]
theorem ck1_word (ws : List Int) : Wd (ck1 ws) := ⟨Int.emod_nonneg _ (by decide), Int.emod_lt_of_pos _ (by decide)⟩
theorem ck2_word (ws : List Int) : Wd (ck2 ws) := ⟨Int.emod_nonneg _ (by decide), Int.emod_lt_of_pos _ (by decide)⟩
theorem hdM_words {k d r e s : Int} {ws : List Int} (hp : Plc k d r) (hs : Stp e s) (hw : ∀ w ∈ ws, Wd w) : ∀ w ∈ hdM k d r e s ws, Wd w := fun w m => by
  obtain ⟨⟨k0, k1⟩, ⟨d0, d1⟩, ⟨r0, r1⟩⟩ := hp
  obtain ⟨⟨e0, e1⟩, ⟨s0, s1⟩⟩ := hs
  rcases List.mem_append.mp m with m | m
  · simp only [List.mem_cons, List.not_mem_nil, or_false] at m
    unfold Wd
    rcases m with rfl | rfl | rfl | rfl | rfl | rfl <;> omega
  · exact hw w m
theorem sealM_words {k d r e s : Int} {ws : List Int} (hp : Plc k d r) (hs : Stp e s) (hw : ∀ w ∈ ws, Wd w) : ∀ w ∈ sealM k d r e s ws, Wd w := fun w m => by
  rcases List.mem_append.mp m with m | m
  · exact hdM_words hp hs hw w m
  · simp only [List.mem_cons, List.not_mem_nil, or_false] at m
    rcases m with rfl | rfl
    · exact ck1_word _
    · exact ck2_word _
def sp_check_words (K : PySem.W.Frag) (a : Ad) : Sp := fun vs H Q _ => ∃ (l : Addr) (ws : List Int), vs = [.ref l] ∧ SqL K H l (ws.map V.int) ∧ ws.length ≤ 5000 ∧
  ∀ (D : Addr) (H' : Hp), Same H H' → H D = none → H' D = some (.tup [.int (ck1 ws), .int (ck2 ws)]) → Q (.ref D) H'
theorem sp_check_words_len {K : PySem.W.Frag} {a : Ad} {vs : List V} {H : Hp} {Q : VK} {E : XK} (h : sp_check_words K a vs H Q E) : vs.length = 1 := by
  obtain ⟨l, ws, rfl, _⟩ := h
  rfl
def sp_is_place (K : PySem.W.Frag) (a : Ad) : Sp := fun vs H Q _ => ∃ (k d r : Int), vs = [.int k, .int d, .int r] ∧ (Plc k d r → Q (.bl true) H) ∧ (¬ Plc k d r → Q (.bl false) H)
theorem sp_is_place_len {K : PySem.W.Frag} {a : Ad} {vs : List V} {H : Hp} {Q : VK} {E : XK} (h : sp_is_place K a vs H Q E) : vs.length = 3 := by
  obtain ⟨k, d, r, rfl, _⟩ := h
  rfl
def sp_seal (K : PySem.W.Frag) (a : Ad) : Sp := fun vs H Q E => ∃ (k d r : Int) (st pl : Addr) (e s : Int) (ws : List Int), vs = [.int k, .int d, .int r, .ref st, .ref pl] ∧ SqT K H st [.int e, .int s] ∧ SqL K H pl (ws.map V.int) ∧ ws.length ≤ 4000 ∧
  (BadSeal k d r e s ws → ∀ H', Same H H' → E (.ref a.c_InvalidArgument) none H') ∧
  (¬ BadSeal k d r e s ws → ∀ (D : Addr) (H' : Hp), Same H H' → H D = none → H' D = some (.lst ((sealM k d r e s ws).map V.int)) → Q (.ref D) H')
theorem sp_seal_len {K : PySem.W.Frag} {a : Ad} {vs : List V} {H : Hp} {Q : VK} {E : XK} (h : sp_seal K a vs H Q E) : vs.length = 5 := by
  obtain ⟨k, d, r, st, pl, e, s, ws, rfl, _⟩ := h
  rfl
theorem seal_take (k d r e s : Int) (ws : List Int) : (sealM k d r e s ws).take (ws.length + 6) = hdM k d r e s ws := by
  unfold sealM
  rw [List.take_append_of_le_length (by rw [hdM_length]; exact Nat.le_refl _), List.take_of_length_le (by rw [hdM_length]; exact Nat.le_refl _)]
theorem seal_drop (k d r e s : Int) (ws : List Int) : (sealM k d r e s ws).drop (ws.length + 6) = [ck1 (hdM k d r e s ws), ck2 (hdM k d r e s ws)] := by
  unfold sealM
  rw [List.drop_append_of_le_length (by rw [hdM_length]; exact Nat.le_refl _), List.drop_of_length_le (by rw [hdM_length]; exact Nat.le_refl _)]
  rfl
/-! images, requests, blocks -/
theorem cut_mid (xs : List V) (i j : Nat) : cutV xs (some (i : Int)) (some (j : Int)) = (xs.drop i).take (j - i) := by
  unfold cutV
  rw [HT.sIx_nat, HT.sIx_nat]
  by_cases h : i ≤ xs.length
  · rw [Nat.min_eq_left h]
    by_cases g : j ≤ xs.length
    · rw [Nat.min_eq_left g]
    · rw [Nat.min_eq_right (by omega), List.take_of_length_le (by rw [List.length_drop]; omega), List.take_of_length_le (by rw [List.length_drop]; omega)]
  · rw [Nat.min_eq_right (show xs.length ≤ i by omega), List.drop_of_length_le (by omega), List.drop_of_length_le (by omega), List.take_nil, List.take_nil]
theorem erase_map {α β : Type} (f : α → β) : ∀ (l : List α) (i : Nat), (l.map f).eraseIdx i = (l.eraseIdx i).map f
  | [], _ => rfl
  | _ :: _, 0 => rfl
  | a :: l, i + 1 => by
    show f a :: (l.map f).eraseIdx i = f a :: (l.eraseIdx i).map f
    rw [erase_map f l i]
theorem erase_perm : ∀ (l : List Int) (i : Nat) (h : i < l.length), (l[i] :: l.eraseIdx i).Perm l
  | _ :: _, 0, _ => List.Perm.refl _
  | a :: l, i + 1, h => by
    have h' : i < l.length := Nat.lt_of_succ_lt_succ h
    show (l[i] :: a :: l.eraseIdx i).Perm (a :: l)
    exact (List.Perm.swap _ _ _).trans (List.Perm.cons _ (erase_perm l i (Nat.lt_of_succ_lt_succ h)))
theorem seqIx_nat {i n : Nat} (h : i < n) : seqIndex? (i : Int) n = some i := by
  rw [seqIndex_of (by omega) (by omega), Int.toNat_natCast]
theorem cut_ints (W : List Int) (i j : Nat) : cutV (W.map V.int) (some (i : Int)) (some (j : Int)) = ((W.drop i).take (j - i)).map V.int := by rw [cut_mid, List.map_take, List.map_drop]
def refI : Option Addr → V
  | none => .non
  | some a => .ref a
def presentM (ims : List (Option Addr)) (d : Nat) : Bool := (ims.getD d none).isSome
theorem imgs_get {ims : List (Option Addr)} {i : Nat} {o : Option Addr} (h : ims[i]? = some o) : (ims.map refI)[i]? = some (refI o) := by rw [List.getElem?_map, h]; rfl
structure Rq where
  t : Addr
  s : Addr
  d : Int
  r : Int
  ws : List Int
abbrev rqV (e : Rq) : V := .ref e.t
abbrev rqM (e : Rq) : Int × Int × List Int := (e.d, e.r, e.ws)
/-- a list of write requests -/
def WRq (H : Hp) (D : Addr) (L : List Rq) : Prop := H D = some (.lst (L.map rqV)) ∧ ∀ e ∈ L, (H e.t = some (.tup [.str "write", .int e.d, .int e.r, .ref e.s]) ∧ e.t ≠ D) ∧ H e.s = some (.lst (e.ws.map V.int)) ∧ e.s ≠ D
theorem WRq.same {H H' : Hp} {D : Addr} {L : List Rq} (h : WRq H D L) (s : Same H H') : WRq H' D L := ⟨s _ _ h.1, fun e m => ⟨⟨s _ _ (h.2 e m).1.1, (h.2 e m).1.2⟩, s _ _ (h.2 e m).2.1, (h.2 e m).2.2⟩⟩
theorem WRq.put {H : Hp} {D : Addr} {L : List Rq} (h : ∀ e ∈ L, (H e.t = some (.tup [.str "write", .int e.d, .int e.r, .ref e.s]) ∧ e.t ≠ D) ∧ H e.s = some (.lst (e.ws.map V.int)) ∧ e.s ≠ D) : WRq (upd H D (.lst (L.map rqV))) D L :=
  ⟨upd_same, fun e m => ⟨⟨by rw [upd_ne (h e m).1.2]; exact (h e m).1.1, (h e m).1.2⟩, by rw [upd_ne (h e m).2.2]; exact (h e m).2.1, (h e m).2.2⟩⟩
def sizeM (n d : Nat) : Nat := (n + d - 1) / d
def fillM (ws : List Int) (d : Nat) : List Int := ws ++ List.replicate (sizeM ws.length d * d - ws.length) 0
def cutsM (ws : List Int) (d : Nat) : List (List Int) := (List.range d).map fun j => ((fillM ws d).drop (j * sizeM ws.length d)).take (sizeM ws.length d)
noncomputable def stripeM (ws : List Int) (d c : Nat) : List (List Int) := cutsM ws d ++ (List.range (c - d)).map fun k => pieceM (upto d) (cutsM ws d) ((d + k : Nat) : Int) (sizeM ws.length d)
def PlOk (pls : List (Int × Int)) : Prop := ∀ q ∈ pls, (0 ≤ q.1 ∧ q.1 < 8) ∧ (0 ≤ q.2 ∧ q.2 < 4000)
def oneM (ims : List (Option Addr)) (pls : List (Int × Int)) (e s : Int) (rows : List (List Int)) (n : Nat) : List (Int × Int × List Int) :=
  if presentM ims (pls.getD n (0, 0)).1.toNat then [((pls.getD n (0, 0)).1, (pls.getD n (0, 0)).2, sealM 3 (pls.getD n (0, 0)).1 (pls.getD n (0, 0)).2 e s (rows.getD n []))] else []
def reqM (ims : List (Option Addr)) (pls : List (Int × Int)) (e s : Int) (rows : List (List Int)) (ns : List Nat) : List (Int × Int × List Int) := ns.flatMap (oneM ims pls e s rows)
theorem req_len (ims : List (Option Addr)) (pls : List (Int × Int)) (e s : Int) (rows : List (List Int)) : ∀ ns : List Nat, (reqM ims pls e s rows ns).length ≤ ns.length
  | [] => Nat.le_refl _
  | n :: ns => by
    have h := req_len ims pls e s rows ns
    have h1 : (oneM ims pls e s rows n).length ≤ 1 := by unfold oneM; split <;> simp
    have e1 : reqM ims pls e s rows (n :: ns) = oneM ims pls e s rows n ++ reqM ims pls e s rows ns := rfl
    rw [e1, List.length_append, List.length_cons]
    omega
theorem size_le (n d : Nat) (hd : 1 ≤ d) : n ≤ sizeM n d * d := by
  unfold sizeM
  have h := Nat.div_add_mod (n + d - 1) d
  have h2 := Nat.mod_lt (n + d - 1) (show 0 < d by omega)
  rw [Nat.mul_comm] at h
  omega
theorem size_lt (n d : Nat) (hd : 1 ≤ d) : sizeM n d ≤ n := by
  unfold sizeM
  rcases Nat.eq_zero_or_pos n with z | z
  · subst z
    rw [Nat.div_eq_of_lt (by omega)]
    exact Nat.le_refl _
  · exact (Nat.div_le_iff_le_mul_add_pred (by omega)).mpr (by
      have : n * 1 ≤ n * d := Nat.mul_le_mul_left _ hd
      have e : d * n = n * d := Nat.mul_comm _ _
      have : d ≤ d * n := Nat.le_mul_of_pos_right _ z
      have : n ≤ d * n := Nat.le_mul_of_pos_left _ (by omega)
      omega)
theorem fill_len (ws : List Int) (d : Nat) (hd : 1 ≤ d) : (fillM ws d).length = sizeM ws.length d * d := by
  have := size_le ws.length d hd
  simp [fillM]
  omega
theorem cuts_len (ws : List Int) (d : Nat) : (cutsM ws d).length = d := by simp [cutsM]
theorem cuts_row {ws : List Int} {d : Nat} (hd : 1 ≤ d) : ∀ r ∈ cutsM ws d, r.length = sizeM ws.length d := fun r m => by
  obtain ⟨j, hj, rfl⟩ := List.mem_map.mp m
  have hj' := List.mem_range.mp hj
  rw [List.length_take, List.length_drop, fill_len ws d hd]
  have h1 : (j + 1) * sizeM ws.length d ≤ d * sizeM ws.length d := Nat.mul_le_mul_right _ hj'
  rw [Nat.succ_mul] at h1
  have h2 : sizeM ws.length d * d = d * sizeM ws.length d := Nat.mul_comm _ _
  omega
theorem stripe_len {ws : List Int} {d c : Nat} (h : d ≤ c) : (stripeM ws d c).length = c := by simp [stripeM, cuts_len]; omega
theorem stripe_row {ws : List Int} {d c : Nat} (hd : 1 ≤ d) : ∀ r ∈ stripeM ws d c, r.length = sizeM ws.length d := fun r m => by
  rcases List.mem_append.mp m with m | m
  · exact cuts_row hd r m
  · obtain ⟨k, _, rfl⟩ := List.mem_map.mp m
    simp [pieceM]
/-- a tuple of pairs of ints stands at p -/
def PtsT (K : PySem.W.Frag) (H : Hp) (p : Addr) (ps : List (Int × Int)) : Prop := ∃ L : List (Addr × Int × Int), SqT K H p (L.map fun e => V.ref e.1) ∧ L.map (·.2) = ps ∧ ∀ e ∈ L, SqT K H e.1 [.int e.2.1, .int e.2.2]
theorem PtsT.same {K : PySem.W.Frag} {H H' : Hp} {p : Addr} {ps : List (Int × Int)} (h : PtsT K H p ps) (s : Same H H') : PtsT K H' p ps := by
  obtain ⟨L, h1, h2, h3⟩ := h
  exact ⟨L, s.tup h1, h2, fun e m => s.tup (h3 e m)⟩
theorem PtsT.old {K : PySem.W.Frag} {H : Hp} {p : Addr} {ps : List (Int × Int)} (h : PtsT K H p ps) : ∃ as : List Addr, SqT K H p (as.map V.ref) ∧ as.length = ps.length ∧
    ∀ (i : Nat) (t : Addr) (q : Int × Int), as[i]? = some t → ps[i]? = some q → SqT K H t [.int q.1, .int q.2] := by
  obtain ⟨L, h1, rfl, h3⟩ := h
  refine ⟨L.map (·.1), by rw [List.map_map]; exact h1, by simp, fun i t q a b => ?_⟩
  rw [List.getElem?_map] at a b
  cases e : L[i]? with
  | none => rw [e] at a; cases a
  | some u =>
    rw [e] at a b
    cases a
    cases b
    exact h3 u (List.mem_of_getElem? e)
def sp_is_present (K : PySem.W.Frag) (a : Ad) : Sp := fun vs H Q _ => ∃ (I : Addr) (ims : List (Option Addr)) (d : Nat), vs = [.ref I, .int (d : Int)] ∧ SqL K H I (ims.map refI) ∧ ims.length ≤ 100 ∧ Q (.bl (presentM ims d)) H
theorem sp_is_present_len {K : PySem.W.Frag} {a : Ad} {vs : List V} {H : Hp} {Q : VK} {E : XK} (h : sp_is_present K a vs H Q E) : vs.length = 2 := by
  obtain ⟨I, ims, d, rfl, _⟩ := h
  rfl
def sp_piece_size (K : PySem.W.Frag) (a : Ad) : Sp := fun vs H Q _ => ∃ (n d : Nat), vs = [.int (n : Int), .int (d : Int)] ∧ 1 ≤ d ∧ d ≤ 100 ∧ Q (.int (sizeM n d : Nat)) H
theorem sp_piece_size_len {K : PySem.W.Frag} {a : Ad} {vs : List V} {H : Hp} {Q : VK} {E : XK} (h : sp_piece_size K a vs H Q E) : vs.length = 2 := by
  obtain ⟨n, d, rfl, _⟩ := h
  rfl
def sp_data_pieces (K : PySem.W.Frag) (a : Ad) : Sp := fun vs H Q _ => ∃ (W : Addr) (ws : List Int) (d : Nat), vs = [.ref W, .int (d : Int)] ∧ SqL K H W (ws.map V.int) ∧ ws.length ≤ 400 ∧ 1 ≤ d ∧ d ≤ 8 ∧
  ∀ (D : Addr) (F : List (Addr × List Int)) (H' : Hp), Same H H' → H D = none → LA H' D F → snds F = cutsM ws d → Q (.ref D) H'
theorem sp_data_pieces_len {K : PySem.W.Frag} {a : Ad} {vs : List V} {H : Hp} {Q : VK} {E : XK} (h : sp_data_pieces K a vs H Q E) : vs.length = 2 := by
  obtain ⟨W, ws, d, rfl, _⟩ := h
  rfl
def sp_piece_requests (K : PySem.W.Frag) (a : Ad) : Sp := fun vs H Q _ => ∃ (I P st R N : Addr) (ims : List (Option Addr)) (pls : List (Int × Int)) (e s : Int) (F : List (Addr × List Int)) (ns : List Nat), vs = [.ref I, .ref P, .ref st, .ref R, .ref N] ∧
  SqL K H I (ims.map refI) ∧ ims.length ≤ 100 ∧ PtsT K H P pls ∧ PlOk pls ∧ SqT K H st [.int e, .int s] ∧ Stp e s ∧ RL K H R F ∧ (∀ r ∈ F, r.2.length ≤ 1000) ∧ F.length = pls.length ∧ SqL K H N ((ns.map fun (i : Nat) => (i : Int)).map V.int) ∧ (∀ n ∈ ns, n < pls.length) ∧ ns.length ≤ 100 ∧
  ∀ (D : Addr) (L : List Rq) (H' : Hp), Same H H' → H D = none → WRq H' D L → L.map rqM = reqM ims pls e s (snds F) ns → Q (.ref D) H'
theorem sp_piece_requests_len {K : PySem.W.Frag} {a : Ad} {vs : List V} {H : Hp} {Q : VK} {E : XK} (h : sp_piece_requests K a vs H Q E) : vs.length = 5 := by
  obtain ⟨I, P, st, R, N, ims, pls, e, s, F, ns, rfl, _⟩ := h
  rfl
def sp_write_stripe (K : PySem.W.Frag) (a : Ad) : Sp := fun vs H Q E => ∃ (I P st W : Addr) (ims : List (Option Addr)) (pls : List (Int × Int)) (e s : Int) (ws : List Int) (d : Nat), vs = [.ref I, .ref P, .ref st, .ref W, .int (d : Int)] ∧
  SqL K H I (ims.map refI) ∧ ims.length ≤ 100 ∧ PtsT K H P pls ∧ PlOk pls ∧ SqT K H st [.int e, .int s] ∧ Stp e s ∧ SqL K H W (ws.map V.int) ∧ 1 ≤ d ∧ d ≤ pls.length ∧ pls.length ≤ 8 ∧ (ws.length ≤ 400 ∨ (1000 * d < ws.length ∧ ws.length ≤ 9000)) ∧
  (1000 * d < ws.length → ∀ H', Same H H' → E (.ref a.c_InvalidArgument) none H') ∧
  (ws.length ≤ 400 → ∀ (D : Addr) (L : List Rq) (H' : Hp), Same H H' → H D = none → WRq H' D L → L.map rqM = reqM ims pls e s (stripeM ws d pls.length) (List.range pls.length) → Q (.ref D) H')
theorem sp_write_stripe_len {K : PySem.W.Frag} {a : Ad} {vs : List V} {H : Hp} {Q : VK} {E : XK} (h : sp_write_stripe K a vs H Q E) : vs.length = 5 := by
  obtain ⟨I, P, st, W, ims, pls, e, s, ws, d, rfl, _⟩ := h
  rfl
/-! candidates -/
structure Cd where
  t : Addr
  d : Int
  b : Bool
  f : Int
abbrev cdV (e : Cd) : V := .ref e.t
def beforeM (x y : Cd) : Bool := if x.b = y.b then (if x.f = y.f then decide (x.d < y.d) else decide (y.f < x.f)) else x.b
def usableM (L : List Cd) : List Cd := L.filter fun e => decide (0 < e.f)
def rankM (U : List Cd) (x : Cd) : Nat := (U.filter fun y => beforeM y x).length
def bestM (U : List Cd) (w : Nat) : List Int := (U.filter fun x => decide (rankM U x < w)).map (·.d)
theorem before_irr (x : Cd) : beforeM x x = false := by
  unfold beforeM
  rw [if_pos rfl, if_pos rfl]
  exact decide_eq_false (Int.lt_irrefl _)
theorem before_asym {x y : Cd} (h : beforeM x y = true) : beforeM y x = false := by
  obtain ⟨t1, d1, b1, f1⟩ := x
  obtain ⟨t2, d2, b2, f2⟩ := y
  unfold beforeM at h ⊢
  dsimp only at h ⊢
  by_cases hb : b1 = b2
  · subst hb
    rw [if_pos rfl] at h ⊢
    by_cases hf : f1 = f2
    · subst hf
      rw [if_pos rfl] at h ⊢
      have := of_decide_eq_true h
      exact decide_eq_false (by omega)
    · rw [if_neg hf] at h
      rw [if_neg (Ne.symm hf)]
      have := of_decide_eq_true h
      exact decide_eq_false (by omega)
  · rw [if_neg hb] at h
    rw [if_neg (Ne.symm hb)]
    cases b2 with
    | false => rfl
    | true => rw [h] at hb; exact absurd rfl hb
theorem before_tot {x y : Cd} (n : x.d ≠ y.d) (h : beforeM x y = false) : beforeM y x = true := by
  obtain ⟨t1, d1, b1, f1⟩ := x
  obtain ⟨t2, d2, b2, f2⟩ := y
  unfold beforeM at h ⊢
  dsimp only at n h ⊢
  by_cases hb : b1 = b2
  · subst hb
    rw [if_pos rfl] at h ⊢
    by_cases hf : f1 = f2
    · subst hf
      rw [if_pos rfl] at h ⊢
      have := of_decide_eq_false h
      exact decide_eq_true (by omega)
    · rw [if_neg hf] at h
      rw [if_neg (Ne.symm hf)]
      have := of_decide_eq_false h
      exact decide_eq_true (by omega)
  · rw [if_neg hb] at h
    rw [if_neg (Ne.symm hb)]
    cases b2 with
    | true => rfl
    | false => rw [h] at hb; exact absurd rfl hb
def leM (x y : Cd) : Bool := !beforeM y x
theorem before_trans {x y z : Cd} (h1 : beforeM y x = false) (h2 : beforeM z y = false) : beforeM z x = false := by
  obtain ⟨t1, d1, b1, f1⟩ := x
  obtain ⟨t2, d2, b2, f2⟩ := y
  obtain ⟨t3, d3, b3, f3⟩ := z
  unfold beforeM at h1 h2 ⊢
  dsimp only at h1 h2 ⊢
  cases b1 <;> cases b2 <;> cases b3 <;> simp only [if_true, Bool.false_eq_true, Bool.true_eq_false, if_false, reduceCtorEq] at h1 h2 ⊢ <;>
    (split at h1 <;> split at h2 <;> split <;> simp only [decide_eq_false_iff_not] at h1 h2 ⊢ <;> omega)
theorem leM_trans (x y z : Cd) (h1 : leM x y = true) (h2 : leM y z = true) : leM x z = true := by
  unfold leM at h1 h2 ⊢
  rw [Bool.not_eq_true'] at h1 h2 ⊢
  exact before_trans h1 h2
theorem leM_total (x y : Cd) : (leM x y || leM y x) = true := by
  unfold leM
  cases h : beforeM y x with
  | false => rfl
  | true => rw [before_asym h]; rfl
theorem rank_aux (w : Nat) : ∀ (S P : List Cd), (P ++ S).Pairwise (fun x y => beforeM x y = true) → S.filter (fun x => decide (rankM (P ++ S) x < w)) = S.take (w - P.length)
  | [], P, _ => by simp
  | a :: T, P, h => by
    have e : P ++ a :: T = (P ++ [a]) ++ T := by simp
    have hP := List.pairwise_append.mp h
    have ha : rankM (P ++ a :: T) a = P.length := by
      unfold rankM
      rw [List.filter_append, List.filter_eq_self.mpr (fun x m => hP.2.2 x m a (by simp)), List.filter_cons_of_neg (by rw [before_irr]; decide), List.filter_eq_nil_iff.mpr (fun x m => by rw [before_asym ((List.pairwise_cons.mp hP.2.1).1 x m)]; decide), List.append_nil]
    have ih := rank_aux w T (P ++ [a]) (by rw [← e]; exact h)
    rw [← e, List.length_append] at ih
    by_cases hw : P.length < w
    · rw [List.filter_cons_of_pos (by rw [ha]; exact decide_eq_true hw), ih]
      rw [show w - P.length = (w - (P.length + [a].length)) + 1 by simp; omega, List.take_succ_cons]
    · rw [List.filter_cons_of_neg (by rw [ha, decide_eq_false hw]; decide), ih, show w - P.length = 0 by omega, show w - (P.length + [a].length) = 0 by omega, List.take_zero, List.take_zero]
theorem rank_perm {U S : List Cd} (p : S.Perm U) (x : Cd) : rankM S x = rankM U x := (p.filter _).length_eq
theorem best_of {U S : List Cd} {w : Nat} (p : S.Perm U) (h : S.Pairwise fun x y => beforeM x y = true) : ((S.take w).map (·.d)).Perm (bestM U w) := by
  have h1 := rank_aux w S [] h
  have e : S.take w = S.filter fun x => decide (rankM U x < w) := by
    have h2 : S.filter (fun x => decide (rankM ([] ++ S) x < w)) = S.take (w - 0) := h1
    rw [Nat.sub_zero] at h2
    rw [← h2]
    refine List.filter_congr fun x _ => ?_
    rw [List.nil_append, rank_perm p]
  rw [e]
  exact (p.filter _).map _
theorem strict_of {S : List Cd} (h : S.Pairwise fun x y => leM x y = true) (n : (S.map (·.d)).Nodup) : S.Pairwise fun x y => beforeM x y = true := by
  have n' : S.Pairwise fun x y => x.d ≠ y.d := List.pairwise_map.mp n
  refine (h.and n').imp fun {x y} q => ?_
  have q1 : beforeM y x = false := by
    have := q.1
    unfold leM at this
    rw [Bool.not_eq_true'] at this
    exact this
  exact before_tot (Ne.symm q.2) q1
theorem sorted_one {xs ys : List Int} (p : xs.Perm ys) (h1 : xs.Pairwise (· ≤ ·)) (h2 : ys.Pairwise (· ≤ ·)) : xs = ys :=
  List.Perm.eq_of_pairwise (le := (· ≤ ·)) (fun _ _ _ _ h1 h2 => Int.le_antisymm h1 h2) h1 h2 p
def tripD (e : Cd) : PyData := .tuple [.bool (!e.b), .int (-e.f), .int e.d]
theorem trip_alike (x y : Cd) : PySem.W.alike (tripD x) (tripD y) = true := by simp [PySem.W.alike, PySem.W.alikeAll, tripD]
theorem trip_lt (x y : Cd) : PySem.W.dataLt (tripD x) (tripD y) = beforeM x y := by
  unfold tripD
  rw [PySem.W.dataLt_tuple, PySem.W.dataLt_cons (by simp [PySem.W.alike]), PySem.W.dataLt_cons (by simp [PySem.W.alike]), PySem.W.dataLt_cons (by simp [PySem.W.alike]), PySem.W.dataLt_bool, PySem.W.dataLt_int, PySem.W.dataLt_int]
  have e : PyProof.Rows.lexLt PyProof.Rows.itemOrd (PySem.W.keyToksAll []) (PySem.W.keyToksAll []) = false := PyProof.Rows.lex_irrefl _
  rw [e]
  simp only [PyData.eqv]
  obtain ⟨t1, d1, b1, f1⟩ := x
  obtain ⟨t2, d2, b2, f2⟩ := y
  unfold beforeM
  dsimp only
  by_cases hf : f1 = f2
  · subst hf
    by_cases hd : d1 = d2
    · subst hd
      cases b1 <;> cases b2 <;> simp [PyProof.Rows.b2i]
    · cases b1 <;> cases b2 <;> simp [PyProof.Rows.b2i, hd]
  · have hf' : ¬ -f1 = -f2 := fun z => hf (by omega)
    have e2 : decide (-f1 < -f2) = decide (f2 < f1) := by
      by_cases q : f2 < f1
      · rw [decide_eq_true q, decide_eq_true (show -f1 < -f2 by omega)]
      · rw [decide_eq_false q, decide_eq_false (show ¬ -f1 < -f2 by omega)]
    rw [e2]
    cases b1 <;> cases b2 <;> simp [PyProof.Rows.b2i, hf, hf']
/-- where such a list stands -/
def CdL (K : PySem.W.Frag) (H : Hp) (D : Addr) (L : List Cd) : Prop := SqL K H D (L.map cdV) ∧ ∀ e ∈ L, H e.t = some (.tup [.int e.d, .bl e.b, .int e.f])
theorem CdL.same {K : PySem.W.Frag} {H H' : Hp} {D : Addr} {L : List Cd} (h : CdL K H D L) (s : Same H H') : CdL K H' D L := ⟨s.seq h.1, fun e m => s _ _ (h.2 e m)⟩
theorem cd_item {L : List Cd} {i : Nat} {y : V} (h : (L.map cdV)[i]? = some y) : ∃ e, L[i]? = some e ∧ y = cdV e := by
  rw [List.getElem?_map] at h
  cases q : L[i]? with
  | none => rw [q] at h; cases h
  | some e => rw [q] at h; exact ⟨e, rfl, (Option.some.inj h).symm⟩
theorem cd_get {L : List Cd} {i : Nat} {e : Cd} (h : L[i]? = some e) : (L.map cdV)[i]? = some (cdV e) := by rw [List.getElem?_map, h]; rfl
/-- the data of a triple that stands in the heap -/
def kH (H : Hp) : V → PyData
  | .ref t => match H t with
    | some (.tup [.bl b, .int f, .int d]) => .tuple [.bool b, .int f, .int d]
    | _ => .none
  | _ => .none
theorem kH_of {H : Hp} {t : Addr} {e : Cd} (h : H t = some (.tup [.bl (!e.b), .int (-e.f), .int e.d])) : kH H (.ref t) = tripD e := by
  unfold kH
  simp only [h]
  rfl
theorem filter_snoc {α : Type} (p : α → Bool) {L : List α} {i : Nat} {e : α} (h : L[i]? = some e) : (L.take (i + 1)).filter p = (L.take i).filter p ++ if p e then [e] else [] := by
  rw [take_snoc h, List.filter_append]
  congr 1
  simp only [List.filter_cons, List.filter_nil]
theorem filter_len {α : Type} (p : α → Bool) (L : List α) (i : Nat) : ((L.take i).filter p).length ≤ L.length := Nat.le_trans (List.length_filter_le _ _) (by rw [List.length_take]; exact Nat.min_le_right _ _)
/-- candidates as data -/
def cdD (e : Cd) : PyData := .tuple [.int e.d, .bool e.b, .int e.f]
theorem cds_data : ∀ L : List Cd, PyData.canLayAll0 (L.map cdD) = true ∧ PyData.depthAll (L.map cdD) ≤ 1 ∧ PyData.eqvAll (L.map cdD) (L.map cdD) = true
  | [] => ⟨rfl, Nat.zero_le _, by simp [PyData.eqvAll]⟩
  | q :: qs => by
    obtain ⟨h1, h2, h3⟩ := cds_data qs
    refine ⟨by simp [PyData.canLayAll0, PyData.canLay0, cdD, h1], ?_, by simp [PyData.eqvAll, PyData.eqv, cdD, h3]⟩
    simp only [List.map_cons, PyData.depthAll, cdD, PyData.depth]
    omega
theorem cds_shaped (L : List Cd) : SeqAt.shaped (.list (L.map cdD)) = true := by
  obtain ⟨h1, h2, _⟩ := cds_data L
  have e : PyData.depth (.list (L.map cdD)) = PyData.depthAll (L.map cdD) + 1 := by simp only [PyData.depth]
  unfold SeqAt.shaped
  rw [Bool.and_eq_true]
  exact ⟨by simp only [PyData.canLay0]; exact h1, decide_eq_true (by rw [e]; omega)⟩
theorem cds_eqv (L : List Cd) : PyData.eqv (.list (L.map cdD)) (.list (L.map cdD)) = true := by
  simp only [PyData.eqv]
  exact (cds_data L).2.2
theorem dp_cds {K : PySem.W.Frag} {H : Hp} {D : Addr} {L : List Cd} (h : CdL K H D L) : Dp K H (.ref D) (.list (L.map cdD)) := by
  refine .lst h.1 ?_
  have : ∀ M : List Cd, (∀ e ∈ M, H e.t = some (.tup [.int e.d, .bl e.b, .int e.f])) → DpAll K H (M.map cdV) (M.map cdD) := by
    intro M
    induction M with
    | nil => intro _; exact .nil
    | cons e M ih => exact fun g => .cons (.tup (SqT.of (g e (by simp))) (.cons (.int _) (.cons (.bl _) (.cons (.int _) .nil)))) (ih fun u m => g u (List.mem_cons_of_mem _ m))
  exact this L h.2
def sp_choose_disks (K : PySem.W.Frag) (a : Ad) : Sp := fun vs H Q E => ∃ (C : Addr) (L : List Cd) (w : Nat), vs = [.ref C, .int (w : Int)] ∧ CdL K H C L ∧ L.length ≤ 20 ∧ w ≤ 1000 ∧ (L.map (·.d)).Nodup ∧
  (L.length < w → ∀ H', Same H H' → E (.ref a.c_NotEnoughDisks) none H') ∧
  (¬ L.length < w → (usableM L).length < w → ∀ H', Same H H' → E (.ref a.c_NoSpace) none H') ∧
  (¬ L.length < w → ¬ (usableM L).length < w → ∀ (D : Addr) (ns : List Int) (H' : Hp), Same H H' → H D = none → H' D = some (.lst (ns.map V.int)) → ns.Perm (bestM (usableM L) w) → ns.Pairwise (· ≤ ·) → Q (.ref D) H')
theorem sp_choose_disks_len {K : PySem.W.Frag} {a : Ad} {vs : List V} {H : Hp} {Q : VK} {E : XK} (h : sp_choose_disks K a vs H Q E) : vs.length = 2 := by
  obtain ⟨C, L, w, rfl, _⟩ := h
  rfl
def sp_law_answer (K : PySem.W.Frag) (a : Ad) : Sp := fun vs H Q _ => ∃ (C : Addr) (L : List Cd) (w : Nat), vs = [.ref C, .int (w : Int)] ∧ CdL K H C L ∧ L.length ≤ 20 ∧ w ≤ 1000 ∧ (L.map (·.d)).Nodup ∧
  (L.length < w → ∀ H', Same H H' → Q (.int 3) H') ∧
  (¬ L.length < w → (usableM L).length < w → ∀ H', Same H H' → Q (.int 2) H') ∧
  (¬ L.length < w → ¬ (usableM L).length < w → ∀ (D : Addr) (ns : List Int) (H' : Hp), Same H H' → H D = none → H' D = some (.lst (ns.map V.int)) → ns.Perm (bestM (usableM L) w) → ns.Pairwise (· ≤ ·) → Q (.ref D) H')
theorem sp_law_answer_len {K : PySem.W.Frag} {a : Ad} {vs : List V} {H : Hp} {Q : VK} {E : XK} (h : sp_law_answer K a vs H Q E) : vs.length = 2 := by
  obtain ⟨C, L, w, rfl, _⟩ := h
  rfl
def sp_law_before (K : PySem.W.Frag) (a : Ad) : Sp := fun vs H Q _ => ∃ (x y : Cd), vs = [.ref x.t, .ref y.t] ∧ H x.t = some (.tup [.int x.d, .bl x.b, .int x.f]) ∧ H y.t = some (.tup [.int y.d, .bl y.b, .int y.f]) ∧ Q (.bl (beforeM x y)) H
theorem sp_law_before_len {K : PySem.W.Frag} {a : Ad} {vs : List V} {H : Hp} {Q : VK} {E : XK} (h : sp_law_before K a vs H Q E) : vs.length = 2 := by
  obtain ⟨x, y, rfl, _⟩ := h
  rfl
/-! the rows of a disk: free 0, new 1, old 2, waiting 3 -/
def flds (rows first : Int) (d : Addr) (low : Int) : List (Str × V) := [("_rows", .int rows), ("_first", .int first), ("_states", .ref d), ("_lowest", .int low)]
theorem flds_init (rows first : Int) (d : Addr) : putF "_lowest" (.int first) (putF "_states" (.ref d) (putF "_first" (.int first) (putF "_rows" (.int rows) []))) = flds rows first d first := by kernel_rfl
theorem flds_low (rows first : Int) (d : Addr) (low z : Int) : putF "_lowest" (.int z) (flds rows first d low) = flds rows first d z := by kernel_rfl
theorem flds_st (rows first : Int) (d e : Addr) (low : Int) : putF "_states" (.ref e) (flds rows first d low) = flds rows first e low := by kernel_rfl
theorem flds_rows (rows first : Int) (d : Addr) (low : Int) : (flds rows first d low).lookup ("_rows" : Str) = some (.int rows) := by kernel_rfl
theorem flds_first (rows first : Int) (d : Addr) (low : Int) : (flds rows first d low).lookup ("_first" : Str) = some (.int first) := by kernel_rfl
theorem flds_states (rows first : Int) (d : Addr) (low : Int) : (flds rows first d low).lookup ("_states" : Str) = some (.ref d) := by kernel_rfl
theorem flds_lowest (rows first : Int) (d : Addr) (low : Int) : (flds rows first d low).lookup ("_lowest" : Str) = some (.int low) := by kernel_rfl
def kvM (M : List (Int × Int)) : List (Key × V) := M.map fun q => (Sum.inl q.1, V.int q.2)
def stM (M : List (Int × Int)) (r : Int) : Int := match M.find? fun q => decide (q.1 = r) with
  | some q => q.2
  | none => 0
theorem valV_M : ∀ (M : List (Int × Int)) (r : Int), valV (kvM M) (Sum.inl r) = (M.find? fun q => decide (q.1 = r)).map fun q => V.int q.2
  | [], _ => rfl
  | q :: M, r => by
    unfold valV kvM
    rw [List.map_cons, List.find?_cons, List.find?_cons]
    by_cases h : q.1 = r
    · rw [show decide ((Sum.inl q.1 : Key) = Sum.inl r) = true from decide_eq_true (by rw [h]), decide_eq_true h]
      rfl
    · rw [show decide ((Sum.inl q.1 : Key) = Sum.inl r) = false from decide_eq_false fun z => h (Sum.inl.inj z), decide_eq_false h]
      exact valV_M M r
/-- what is known of such a dict -/
structure Ok (rows first : Nat) (φ : Int → Int) (M : List (Int × Int)) : Prop where
  nd : (M.map (·.1)).Nodup
  st : ∀ r, φ r = stM M r
  inn : ∀ q ∈ M, ((first : Int) ≤ q.1 ∧ q.1 < rows) ∧ (1 ≤ q.2 ∧ q.2 ≤ 3)
theorem stM_mem {M : List (Int × Int)} {r s : Int} (nd : (M.map (·.1)).Nodup) (m : (r, s) ∈ M) : stM M r = s := by
  induction M with
  | nil => cases m
  | cons q M ih =>
    unfold stM
    rw [List.find?_cons]
    rw [List.map_cons, List.nodup_cons] at nd
    rcases List.mem_cons.mp m with e | m'
    · subst e
      rw [decide_eq_true rfl]
    · have : q.1 ≠ r := fun z => nd.1 (List.mem_map.mpr ⟨(r, s), m', z.symm⟩)
      rw [decide_eq_false this]
      exact ih nd.2 m'
theorem stM_get {M : List (Int × Int)} {r : Int} (h : stM M r ≠ 0) : (r, stM M r) ∈ M := by
  unfold stM at h ⊢
  cases e : M.find? fun q => decide (q.1 = r) with
  | none => rw [e] at h; exact absurd rfl h
  | some q =>
    have h1 := List.find?_some e
    have h2 : q.1 = r := of_decide_eq_true h1
    show (r, q.2) ∈ M
    rw [← h2]
    exact List.mem_of_find?_eq_some e
theorem Ok.mem {rows first : Nat} {φ : Int → Int} {M : List (Int × Int)} (h : Ok rows first φ M) {r s : Int} (m : (r, s) ∈ M) : φ r = s := by rw [h.st, stM_mem h.nd m]
theorem Ok.get {rows first : Nat} {φ : Int → Int} {M : List (Int × Int)} (h : Ok rows first φ M) {r : Int} (n : φ r ≠ 0) : (r, φ r) ∈ M := by
  rw [h.st] at n ⊢
  exact stM_get n
theorem Ok.val {rows first : Nat} {φ : Int → Int} {M : List (Int × Int)} (h : Ok rows first φ M) (r : Int) : valV (kvM M) (Sum.inl r) = if φ r = 0 then none else some (V.int (φ r)) := by
  rw [valV_M, h.st]
  unfold stM
  cases e : M.find? fun q => decide (q.1 = r) with
  | none => rfl
  | some q =>
    have := (h.inn q (List.mem_of_find?_eq_some e)).2
    show some (V.int q.2) = if q.2 = 0 then none else some (V.int q.2)
    rw [if_neg (by omega)]
theorem Ok.range {rows first : Nat} {φ : Int → Int} {M : List (Int × Int)} (h : Ok rows first φ M) {r : Int} (n : φ r ≠ 0) : ((first : Int) ≤ r ∧ r < rows) ∧ (1 ≤ φ r ∧ φ r ≤ 3) := h.inn _ (h.get n)
def rowsL (first rows : Nat) : List Int := (List.range (rows - first)).map fun (i : Nat) => ((first + i : Nat) : Int)
theorem rowsL_mem {first rows : Nat} {r : Int} : r ∈ rowsL first rows ↔ (first : Int) ≤ r ∧ r < rows := by
  unfold rowsL
  rw [List.mem_map]
  constructor
  · rintro ⟨i, hi, rfl⟩
    have := List.mem_range.mp hi
    omega
  · rintro ⟨h1, h2⟩
    exact ⟨(r - first).toNat, List.mem_range.mpr (by omega), by omega⟩
theorem rowsL_lt (first rows : Nat) : (rowsL first rows).Pairwise (· < ·) := by
  unfold rowsL
  rw [List.pairwise_map]
  refine List.pairwise_lt_range.imp fun {a b} h => ?_
  omega
theorem rowsL_len (first rows : Nat) : (rowsL first rows).length = rows - first := by simp [rowsL]
def pickL (first rows : Nat) (φ : Int → Int) (p : Int → Bool) : List Int := (rowsL first rows).filter fun r => p (φ r)
theorem pick_sorted (first rows : Nat) (φ : Int → Int) (p : Int → Bool) : (pickL first rows φ p).Pairwise (· ≤ ·) := ((rowsL_lt first rows).filter _).imp fun h => Int.le_of_lt h
theorem pick_perm {rows first : Nat} {φ : Int → Int} {M : List (Int × Int)} (h : Ok rows first φ M) (p : Int → Bool) (hp : p 0 = false) : ((M.filter fun q => p q.2).map (·.1)).Perm (pickL first rows φ p) := by
  have n1 : ((M.filter fun q => p q.2).map (·.1)).Nodup := List.Nodup.sublist (List.Sublist.map _ List.filter_sublist) h.nd
  have n2 : (pickL first rows φ p).Nodup := List.Nodup.sublist List.filter_sublist ((rowsL_lt first rows).imp fun h => Int.ne_of_lt h)
  refine (List.perm_ext_iff_of_nodup n1 n2).mpr fun r => ?_
  unfold pickL
  rw [List.mem_map, List.mem_filter, rowsL_mem]
  constructor
  · rintro ⟨q, hq, rfl⟩
    obtain ⟨m, hp'⟩ := List.mem_filter.mp hq
    rw [h.mem (s := q.2) m]
    exact ⟨(h.inn q m).1, hp'⟩
  · rintro ⟨hr, hp'⟩
    have n : φ r ≠ 0 := fun z => by rw [z, hp] at hp'; cases hp'
    exact ⟨(r, φ r), List.mem_filter.mpr ⟨h.get n, hp'⟩, rfl⟩
def upF (φ : Int → Int) (r s : Int) : Int → Int := fun x => if x = r then s else φ x
theorem stM_snoc {M : List (Int × Int)} {r s : Int} (h : stM M r = 0) (hM : ∀ q ∈ M, 1 ≤ q.2) (x : Int) : stM (M ++ [(r, s)]) x = upF (stM M) r s x := by
  unfold upF
  by_cases e : x = r
  · subst e
    rw [if_pos rfl]
    have : M.find? (fun q => decide (q.1 = x)) = none := by
      cases q : M.find? fun q => decide (q.1 = x) with
      | none => rfl
      | some y =>
        unfold stM at h
        rw [q] at h
        have h1 := hM y (List.mem_of_find?_eq_some q)
        have h2 : y.2 = 0 := h
        omega
    unfold stM
    rw [List.find?_append, this]
    simp
  · rw [if_neg e]
    unfold stM
    rw [List.find?_append]
    cases q : M.find? fun q => decide (q.1 = x) with
    | some y => rfl
    | none => simp [Ne.symm e]
theorem Ok.put {rows first : Nat} {φ : Int → Int} {M : List (Int × Int)} (h : Ok rows first φ M) {r s : Int} (h0 : φ r = 0) (hr : (first : Int) ≤ r ∧ r < rows) (hs : 1 ≤ s ∧ s ≤ 3) : Ok rows first (upF φ r s) (M ++ [(r, s)]) := by
  have hM : ∀ q ∈ M, 1 ≤ q.2 := fun q m => (h.inn q m).2.1
  have h0' : stM M r = 0 := by rw [← h.st]; exact h0
  refine ⟨?_, fun x => ?_, fun q m => ?_⟩
  · rw [List.map_append, List.nodup_append]
    refine ⟨h.nd, by simp, fun a ha b hb => ?_⟩
    have : b = r := by simpa using hb
    subst this
    obtain ⟨q, m, rfl⟩ := List.mem_map.mp ha
    intro z
    have h1 := stM_mem h.nd (r := q.1) (s := q.2) m
    rw [z, h0'] at h1
    have := hM q m
    omega
  · rw [stM_snoc h0' hM]
    unfold upF
    split
    · rfl
    · exact h.st x
  · rcases List.mem_append.mp m with m | m
    · exact h.inn q m
    · have : q = (r, s) := by simpa using m
      subst this
      exact ⟨hr, hs⟩
theorem Ok.of {rows first : Nat} {φ : Int → Int} {M : List (Int × Int)} (nd : (M.map (·.1)).Nodup) (inn : ∀ q ∈ M, ((first : Int) ≤ q.1 ∧ q.1 < rows) ∧ (1 ≤ q.2 ∧ q.2 ≤ 3)) (hm : ∀ x, φ x ≠ 0 → (x, φ x) ∈ M) (hm2 : ∀ q ∈ M, φ q.1 = q.2) : Ok rows first φ M := by
  refine ⟨nd, fun x => ?_, inn⟩
  by_cases h : φ x = 0
  · by_cases g : stM M x = 0
    · rw [h, g]
    · have := hm2 _ (stM_get g)
      exact this
  · exact (stM_mem nd (hm x h)).symm
theorem Ok.len {rows first : Nat} {φ : Int → Int} {M : List (Int × Int)} (h : Ok rows first φ M) : M.length = (pickL first rows φ fun s => decide (s ≠ 0)).length := by
  have p := (pick_perm h (fun s => decide (s ≠ 0)) (by decide)).length_eq
  have e : (M.filter fun q => decide (q.2 ≠ 0)) = M := List.filter_eq_self.mpr fun q m => decide_eq_true (by have := (h.inn q m).2; omega)
  rw [e, List.length_map] at p
  exact p
theorem pick_le (first rows : Nat) (φ : Int → Int) (p : Int → Bool) : (pickL first rows φ p).length ≤ rows - first := Nat.le_trans (List.length_filter_le _ _) (by rw [rowsL_len]; exact Nat.le_refl _)
def setM (M : List (Int × Int)) (r s : Int) : List (Int × Int) := M.map fun q => if q.1 = r then (q.1, s) else q
theorem setM_keys (M : List (Int × Int)) (r s : Int) : (setM M r s).map (·.1) = M.map (·.1) := by
  unfold setM
  rw [List.map_map]
  refine List.map_congr_left fun q _ => ?_
  show (if q.1 = r then (q.1, s) else q).1 = q.1
  split <;> rfl
theorem kv_set {M : List (Int × Int)} {r s : Int} (h : (valV (kvM M) (Sum.inl r)).isSome = true) : putK (kvM M) (Sum.inl r) (V.int s) = kvM (setM M r s) := by
  unfold putK
  rw [valV_any, if_pos h]
  unfold kvM setM
  rw [List.map_map, List.map_map]
  refine List.map_congr_left fun q _ => ?_
  show (if (Sum.inl q.1 : Key) = Sum.inl r then ((Sum.inl q.1 : Key), V.int s) else (Sum.inl q.1, V.int q.2)) = (Sum.inl (if q.1 = r then (q.1, s) else q).1, V.int (if q.1 = r then (q.1, s) else q).2)
  by_cases e : q.1 = r
  · rw [if_pos (by rw [e]), if_pos e]
  · rw [if_neg fun z => e (Sum.inl.inj z), if_neg e]
theorem kv_new {M : List (Int × Int)} {r s : Int} (h : valV (kvM M) (Sum.inl r) = none) : putK (kvM M) (Sum.inl r) (V.int s) = kvM (M ++ [(r, s)]) := by
  rw [putK_new _ h]
  unfold kvM
  rw [List.map_append]
  rfl
def delM (M : List (Int × Int)) (r : Int) : List (Int × Int) := M.filter fun q => decide (q.1 ≠ r)
theorem kv_del (M : List (Int × Int)) (r : Int) : dropK (kvM M) (Sum.inl r) = kvM (delM M r) := by
  unfold dropK kvM delM
  rw [List.filter_map]
  congr 1
  refine List.filter_congr fun q _ => ?_
  by_cases e : q.1 = r <;> simp [e]
theorem Ok.set {rows first : Nat} {φ : Int → Int} {M : List (Int × Int)} (h : Ok rows first φ M) {r s : Int} (h0 : φ r ≠ 0) (hs : 1 ≤ s ∧ s ≤ 3) : Ok rows first (upF φ r s) (setM M r s) := by
  refine Ok.of (by rw [setM_keys]; exact h.nd) (fun q m => ?_) (fun x hx => ?_) fun q m => ?_
  · obtain ⟨y, my, rfl⟩ := List.mem_map.mp m
    have := h.inn y my
    split
    · exact ⟨this.1, hs⟩
    · exact this
  · unfold upF at hx ⊢
    by_cases e : x = r
    · subst e
      rw [if_pos rfl]
      refine List.mem_map.mpr ⟨(x, φ x), h.get h0, ?_⟩
      rw [if_pos rfl]
    · rw [if_neg e] at hx ⊢
      refine List.mem_map.mpr ⟨(x, φ x), h.get hx, ?_⟩
      rw [if_neg e]
  · obtain ⟨y, my, rfl⟩ := List.mem_map.mp m
    unfold upF
    by_cases e : y.1 = r
    · rw [if_pos e]
      show (if y.1 = r then s else _) = s
      rw [if_pos e]
    · rw [if_neg e, if_neg e]
      exact h.mem (r := y.1) (s := y.2) my
theorem Ok.del {rows first : Nat} {φ : Int → Int} {M : List (Int × Int)} (h : Ok rows first φ M) (r : Int) : Ok rows first (upF φ r 0) (delM M r) := by
  refine Ok.of (List.Nodup.sublist (List.Sublist.map _ List.filter_sublist) h.nd) (fun q m => h.inn q (List.mem_filter.mp m).1) (fun x hx => ?_) fun q m => ?_
  · unfold upF at hx ⊢
    by_cases e : x = r
    · rw [if_pos e] at hx
      exact absurd rfl hx
    · rw [if_neg e] at hx ⊢
      exact List.mem_filter.mpr ⟨h.get hx, decide_eq_true e⟩
  · obtain ⟨m1, m2⟩ := List.mem_filter.mp m
    have m2 := of_decide_eq_true m2
    unfold upF
    rw [if_neg m2]
    exact h.mem (r := q.1) (s := q.2) m1
def settM (M : List (Int × Int)) : List (Int × Int) := (M.filter fun q => decide (q.2 ≠ 3)).map fun q => (q.1, 2)
def settF (φ : Int → Int) : Int → Int := fun x => if φ x = 0 ∨ φ x = 3 then 0 else 2
theorem Ok.sett {rows first : Nat} {φ : Int → Int} {M : List (Int × Int)} (h : Ok rows first φ M) : Ok rows first (settF φ) (settM M) := by
  have ek : (settM M).map (·.1) = (M.filter fun q => decide (q.2 ≠ 3)).map (·.1) := by unfold settM; rw [List.map_map]; rfl
  refine Ok.of (by rw [ek]; exact List.Nodup.sublist (List.Sublist.map _ List.filter_sublist) h.nd) (fun q m => ?_) (fun x hx => ?_) fun q m => ?_
  · obtain ⟨y, my, rfl⟩ := List.mem_map.mp m
    exact ⟨(h.inn y (List.mem_filter.mp my).1).1, by show (1 : Int) ≤ 2; decide, by show (2 : Int) ≤ 3; decide⟩
  · unfold settF at hx ⊢
    by_cases e : φ x = 0 ∨ φ x = 3
    · rw [if_pos e] at hx
      exact absurd rfl hx
    · rw [if_neg e]
      have n0 : φ x ≠ 0 := fun z => e (.inl z)
      exact List.mem_map.mpr ⟨(x, φ x), List.mem_filter.mpr ⟨h.get n0, decide_eq_true fun z => e (.inr z)⟩, rfl⟩
  · obtain ⟨y, my, rfl⟩ := List.mem_map.mp m
    obtain ⟨m1, m2⟩ := List.mem_filter.mp my
    have m2 := of_decide_eq_true m2
    have e := h.mem (r := y.1) (s := y.2) m1
    have := (h.inn y m1).2
    show settF φ y.1 = 2
    unfold settF
    rw [if_neg (by rw [e]; omega)]
/-- a space stands at p, its dict at d -/
def SpD (a : Ad) (H : Hp) (p d : Addr) (first rows : Nat) (φ : Int → Int) : Prop := ∃ (dx : Addr) (low : Int) (M : List (Int × Int)), H p = some (.ins a.c_Space dx (flds rows first d low)) ∧ H d = some (.dK (kvM M)) ∧ Ok rows first φ M ∧ (first : Int) ≤ low ∧ (∀ r, (first : Int) ≤ r → r < low → φ r ≠ 0) ∧ low ≤ rows + 1
theorem SpD.same {a : Ad} {H H' : Hp} {p d : Addr} {first rows : Nat} {φ : Int → Int} (h : SpD a H p d first rows φ) (s : Same H H') : SpD a H' p d first rows φ := by
  obtain ⟨dx, low, M, h1, h2, h3⟩ := h
  exact ⟨dx, low, M, s _ _ h1, s _ _ h2, h3⟩
def Frm (p d : Addr) (H H' : Hp) : Prop := ∀ b o, H b = some o → b ≠ p → b ≠ d → H' b = some o
def InR (first rows : Nat) (r : Int) : Prop := (first : Int) ≤ r ∧ r < rows
def sp_Space_init (K : PySem.W.Frag) (a : Ad) : Sp := fun vs H Q _ => ∃ (p dx : Addr) (first rows : Nat), vs = [.ref p, .int (rows : Int), .int (first : Int)] ∧ H p = some (.ins a.c_Space dx []) ∧ first ≤ rows ∧
  ∀ (d : Addr) (H' : Hp), H d = none → SpD a H' p d first rows (fun _ => 0) → (∀ b o, H b = some o → b ≠ p → H' b = some o) → Q .non H'
def sp_Space_take (K : PySem.W.Frag) (a : Ad) : Sp := fun vs H Q E => ∃ (p d : Addr) (first rows : Nat) (φ : Int → Int), vs = [.ref p] ∧ SpD a H p d first rows φ ∧ rows ≤ 1000 ∧
  ((∀ r, InR first rows r → φ r ≠ 0) → ∀ H', Same H H' → E (.ref a.c_NoSpace) none H') ∧
  (∀ r, InR first rows r → φ r = 0 → (∀ q, (first : Int) ≤ q → q < r → φ q ≠ 0) → ∀ H', SpD a H' p d first rows (upF φ r 1) → Frm p d H H' → Q (.int r) H')
def sp_Space_claim (K : PySem.W.Frag) (a : Ad) : Sp := fun vs H Q E => ∃ (p d : Addr) (first rows : Nat) (φ : Int → Int) (r : Int), vs = [.ref p, .int r] ∧ SpD a H p d first rows φ ∧ rows ≤ 1000 ∧
  (¬ (InR first rows r ∧ φ r = 0) → ∀ H', Same H H' → E (.ref a.c_InvalidArgument) none H') ∧
  (InR first rows r → φ r = 0 → ∀ H', SpD a H' p d first rows (upF φ r 2) → Frm p d H H' → Q .non H')
def sp_Space_give (K : PySem.W.Frag) (a : Ad) : Sp := fun vs H Q E => ∃ (p d : Addr) (first rows : Nat) (φ : Int → Int) (r : Int), vs = [.ref p, .int r] ∧ SpD a H p d first rows φ ∧ rows ≤ 1000 ∧
  ((φ r = 0 ∨ φ r = 3) → ∀ H', Same H H' → E (.ref a.c_InvalidArgument) none H') ∧
  (¬ (φ r = 0 ∨ φ r = 3) → ∀ H', SpD a H' p d first rows (upF φ r (if φ r = 2 then 3 else 0)) → Frm p d H H' → Q .non H')
def sp_Space_settle (K : PySem.W.Frag) (a : Ad) : Sp := fun vs H Q _ => ∃ (p d : Addr) (first rows : Nat) (φ : Int → Int), vs = [.ref p] ∧ SpD a H p d first rows φ ∧ rows ≤ 1000 ∧
  ∀ (d' : Addr) (H' : Hp), H d' = none → SpD a H' p d' first rows (settF φ) → Frm p d H H' → Q .non H'
def sp_Space_is_free (K : PySem.W.Frag) (a : Ad) : Sp := fun vs H Q _ => ∃ (p d : Addr) (first rows : Nat) (φ : Int → Int) (r : Int), vs = [.ref p, .int r] ∧ SpD a H p d first rows φ ∧ ((InR first rows r ∧ φ r = 0) → Q (.bl true) H) ∧ (¬ (InR first rows r ∧ φ r = 0) → Q (.bl false) H)
def sp_Space_free_count (K : PySem.W.Frag) (a : Ad) : Sp := fun vs H Q _ => ∃ (p d : Addr) (first rows : Nat) (φ : Int → Int), vs = [.ref p] ∧ SpD a H p d first rows φ ∧ Q (.int ((rows : Int) - first - ((pickL first rows φ fun s => decide (s ≠ 0)).length : Nat))) H
def sp_Space_used_rows (K : PySem.W.Frag) (a : Ad) : Sp := fun vs H Q _ => ∃ (p d : Addr) (first rows : Nat) (φ : Int → Int), vs = [.ref p] ∧ SpD a H p d first rows φ ∧ rows ≤ first + 60 ∧
  ∀ (D : Addr) (H' : Hp), Same H H' → H D = none → H' D = some (.lst ((pickL first rows φ fun s => decide (s = 1 ∨ s = 2)).map V.int)) → Q (.ref D) H'
def sp_Space_waiting_rows (K : PySem.W.Frag) (a : Ad) : Sp := fun vs H Q _ => ∃ (p d : Addr) (first rows : Nat) (φ : Int → Int), vs = [.ref p] ∧ SpD a H p d first rows φ ∧ rows ≤ first + 60 ∧
  ∀ (D : Addr) (H' : Hp), Same H H' → H D = none → H' D = some (.lst ((pickL first rows φ fun s => decide (s = 3)).map V.int)) → Q (.ref D) H'
theorem sp_Space_init_len {K : PySem.W.Frag} {a : Ad} {vs : List V} {H : Hp} {Q : VK} {E : XK} (h : sp_Space_init K a vs H Q E) : vs.length = 3 := by
  obtain ⟨p, dx, first, rows, rfl, _⟩ := h
  rfl
theorem sp_Space_take_len {K : PySem.W.Frag} {a : Ad} {vs : List V} {H : Hp} {Q : VK} {E : XK} (h : sp_Space_take K a vs H Q E) : vs.length = 1 := by
  obtain ⟨p, d, first, rows, φ, rfl, _⟩ := h
  rfl
theorem sp_Space_claim_len {K : PySem.W.Frag} {a : Ad} {vs : List V} {H : Hp} {Q : VK} {E : XK} (h : sp_Space_claim K a vs H Q E) : vs.length = 2 := by
  obtain ⟨p, d, first, rows, φ, r, rfl, _⟩ := h
  rfl
theorem sp_Space_give_len {K : PySem.W.Frag} {a : Ad} {vs : List V} {H : Hp} {Q : VK} {E : XK} (h : sp_Space_give K a vs H Q E) : vs.length = 2 := by
  obtain ⟨p, d, first, rows, φ, r, rfl, _⟩ := h
  rfl
theorem sp_Space_settle_len {K : PySem.W.Frag} {a : Ad} {vs : List V} {H : Hp} {Q : VK} {E : XK} (h : sp_Space_settle K a vs H Q E) : vs.length = 1 := by
  obtain ⟨p, d, first, rows, φ, rfl, _⟩ := h
  rfl
theorem sp_Space_is_free_len {K : PySem.W.Frag} {a : Ad} {vs : List V} {H : Hp} {Q : VK} {E : XK} (h : sp_Space_is_free K a vs H Q E) : vs.length = 2 := by
  obtain ⟨p, d, first, rows, φ, r, rfl, _⟩ := h
  rfl
theorem sp_Space_free_count_len {K : PySem.W.Frag} {a : Ad} {vs : List V} {H : Hp} {Q : VK} {E : XK} (h : sp_Space_free_count K a vs H Q E) : vs.length = 1 := by
  obtain ⟨p, d, first, rows, φ, rfl, _⟩ := h
  rfl
theorem sp_Space_used_rows_len {K : PySem.W.Frag} {a : Ad} {vs : List V} {H : Hp} {Q : VK} {E : XK} (h : sp_Space_used_rows K a vs H Q E) : vs.length = 1 := by
  obtain ⟨p, d, first, rows, φ, rfl, _⟩ := h
  rfl
theorem sp_Space_waiting_rows_len {K : PySem.W.Frag} {a : Ad} {vs : List V} {H : Hp} {Q : VK} {E : XK} (h : sp_Space_waiting_rows K a vs H Q E) : vs.length = 1 := by
  obtain ⟨p, d, first, rows, φ, rfl, _⟩ := h
  rfl
/-! the store: blocks in memory, blocks that are committed -/
/-- a block: its pointer's tuple, the tuple of its places, its list in memory -/
structure Blk where
  T : Addr
  PT : Addr
  W : Addr
  s : Nat
  L : List (Addr × Int × Int)
  ws : List Int
  mem : Bool
structure SM where
  dx : Addr
  mL : Addr
  spd : Addr
  bD : Addr
  mD : Addr
  I : Addr
  sp : Int → Addr × Addr
  data : Nat
  par : Nat
  rows : Nat
  made : Nat
  ep : Int
  ms : List Int
  bl : List Blk
  od : List Int
def sflds (m : SM) : List (Str × V) := [("data", .int (m.data : Int)), ("parity", .int (m.par : Int)), ("rows", .int (m.rows : Int)), ("members", .ref m.mL), ("epoch", .int m.ep), ("_images", .ref m.I), ("_made", .int (m.made : Int)), ("_spaces", .ref m.spd), ("_blocks", .ref m.bD), ("_memory", .ref m.mD)]
theorem sf_data (m : SM) : (sflds m).lookup ("data" : Str) = some (.int (m.data : Int)) := by kernel_rfl
theorem sf_parity (m : SM) : (sflds m).lookup ("parity" : Str) = some (.int (m.par : Int)) := by kernel_rfl
theorem sf_rows (m : SM) : (sflds m).lookup ("rows" : Str) = some (.int (m.rows : Int)) := by kernel_rfl
theorem sf_members (m : SM) : (sflds m).lookup ("members" : Str) = some (.ref m.mL) := by kernel_rfl
theorem sf_epoch (m : SM) : (sflds m).lookup ("epoch" : Str) = some (.int m.ep) := by kernel_rfl
theorem sf_images (m : SM) : (sflds m).lookup ("_images" : Str) = some (.ref m.I) := by kernel_rfl
theorem sf_made (m : SM) : (sflds m).lookup ("_made" : Str) = some (.int (m.made : Int)) := by kernel_rfl
theorem sf_spaces (m : SM) : (sflds m).lookup ("_spaces" : Str) = some (.ref m.spd) := by kernel_rfl
theorem sf_blocks (m : SM) : (sflds m).lookup ("_blocks" : Str) = some (.ref m.bD) := by kernel_rfl
theorem sf_memory (m : SM) : (sflds m).lookup ("_memory" : Str) = some (.ref m.mD) := by kernel_rfl
theorem sf_set_made (m : SM) (n : Nat) : putF "_made" (.int (n : Int)) (sflds m) = sflds { m with made := n } := by kernel_rfl
theorem sf_set_images (m : SM) (I : Addr) : putF "_images" (.ref I) (sflds m) = sflds { m with I := I } := by kernel_rfl
theorem sf_set_memory (m : SM) (N : Addr) : putF "_memory" (.ref N) (sflds m) = sflds { m with mD := N } := by kernel_rfl
def keyB (ep : Int) (b : Blk) : NestedKey := .tup [.num ep, .num (b.s : Int), .num (b.ws.length : Int), .tup (b.L.map fun q => .tup [.num q.2.1, .num q.2.2])]
structure BlkAt (H : Hp) (ep : Int) (b : Blk) : Prop where
  t : H b.T = some (.tup [.int ep, .int (b.s : Int), .int (b.ws.length : Int), .ref b.PT])
  pt : H b.PT = some (.tup (b.L.map fun q => V.ref q.1))
  q : ∀ e ∈ b.L, H e.1 = some (.tup [.int e.2.1, .int e.2.2])
  w : b.mem = true → H b.W = some (.lst (b.ws.map V.int))
theorem nk_places {H : Hp} : ∀ {L : List (Addr × Int × Int)}, (∀ e ∈ L, H e.1 = some (.tup [.int e.2.1, .int e.2.2])) → NKs H (L.map fun q => .tup [.num q.2.1, .num q.2.2]) (L.map fun q => V.ref q.1)
  | [], _ => .nil
  | e :: L, h => .cons (.tup (h e (by simp)) (.cons (.num _) (.cons (.num _) .nil))) (nk_places fun x m => h x (List.mem_cons_of_mem _ m))
theorem BlkAt.nk {H : Hp} {ep : Int} {b : Blk} (h : BlkAt H ep b) : NK H (keyB ep b) (.ref b.T) := .tup h.t (.cons (.num _) (.cons (.num _) (.cons (.num _) (.cons (.tup h.pt (nk_places h.q)) .nil))))
theorem places_depth : ∀ (L : List (Addr × Int × Int)), NestedKey.depthAll (L.map fun q => .tup [.num q.2.1, .num q.2.2]) ≤ 1
  | [] => Nat.zero_le _
  | e :: L => by
    have := places_depth L
    simp only [List.map_cons, NestedKey.depthAll, NestedKey.depth]
    omega
theorem keyB_depth (ep : Int) (b : Blk) : (keyB ep b).depth ≤ 8 := by
  have := places_depth b.L
  unfold keyB
  simp only [NestedKey.depth, NestedKey.depthAll]
  omega
theorem keyB_inj {ep : Int} {b c : Blk} (h : keyB ep b = keyB ep c) : b.s = c.s := by
  unfold keyB at h
  have h := NestedKey.tup.inj h
  injection h with _ h
  injection h with h _
  have := NestedKey.num.inj h
  omega
def bxs (ep : Int) (bl : List Blk) : List L2.NE := bl.map fun b => (keyB ep b, b.T, V.bl true)
def mx0 (ep : Int) (bl : List Blk) : List L2.NE := bl.map fun b => (keyB ep b, b.T, V.ref b.W)
def mxs (ep : Int) (bl : List Blk) : List L2.NE := mx0 ep (bl.filter fun b => b.mem)
/-- the state of a block's rows -/
def codeM (b : Blk) : Int := if b.mem = true then 1 else 2
def phiM (bl : List Blk) (d : Int) : Int → Int := fun r => match bl.find? fun b => b.L.any fun q => decide (q.2 = (d, r)) with
  | some b => codeM b
  | none => 0
def plcs (bl : List Blk) : List (Int × Int) := bl.flatMap fun b => b.L.map (·.2)
/-- all that the store leans on -/
inductive StR (S : Addr) (m : SM) : Addr → Prop
  | s : StR S m S
  | ml : StR S m m.mL
  | spd : StR S m m.spd
  | bd : StR S m m.bD
  | md : StR S m m.mD
  | s1 (d : Int) : d ∈ m.ms → StR S m (m.sp d).1
  | s2 (d : Int) : d ∈ m.ms → StR S m (m.sp d).2
  | t (b : Blk) : b ∈ m.bl → StR S m b.T
  | pt (b : Blk) : b ∈ m.bl → StR S m b.PT
  | w (b : Blk) : b ∈ m.bl → b.mem = true → StR S m b.W
  | q (b : Blk) (e : Addr × Int × Int) : b ∈ m.bl → e ∈ b.L → StR S m e.1
structure StorP (a : Ad) (H : Hp) (S : Addr) (m : SM) (ψ : Int → Int → Int) : Prop where
  hS : H S = some (.ins a.c_Store m.dx (sflds m))
  hm : H m.mL = some (.lst (m.ms.map V.int))
  hs : H m.spd = some (.dK (m.od.map fun d => ((Sum.inl d : Key), V.ref (m.sp d).1)))
  sp : ∀ d ∈ m.ms, SpD a H (m.sp d).1 (m.sp d).2 18 m.rows (ψ d)
  su : ∀ d ∈ m.ms, ∀ d' ∈ m.ms, (m.sp d).1 = (m.sp d').1 ∨ (m.sp d).2 = (m.sp d').2 → d = d'
  hb : H m.bD = some (L2.NO a.wd m.bD (bxs m.ep m.bl))
  hM : H m.mD = some (L2.NO a.wd m.mD (mxs m.ep m.bl))
  bm : m.bD ≠ m.mD
  blk : ∀ b ∈ m.bl, BlkAt H m.ep b
  nd : m.ms.Pairwise (· < ·)
  m0 : ∀ d ∈ m.ms, 0 ≤ d ∧ d < 8
  ser : ∀ b ∈ m.bl, b.s < m.made
  un : (m.bl.map (·.s)).Nodup
  row : ∀ b ∈ m.bl, ∀ e ∈ b.L, e.2.1 ∈ m.ms ∧ (18 ≤ e.2.2 ∧ e.2.2 < m.rows)
  dis : (m.bl.flatMap fun b => b.L.map (·.2)).Nodup
  asc : ∀ b ∈ m.bl, (b.L.map fun e => e.2.1).Pairwise (· < ·)
  op : m.od.Perm m.ms
abbrev Stor (a : Ad) (H : Hp) (S : Addr) (m : SM) : Prop := StorP a H S m (phiM m.bl)
theorem SpD.keep {a : Ad} {H H' : Hp} {p d : Addr} {first rows : Nat} {φ : Int → Int} (h : SpD a H p d first rows φ) (k1 : ∀ o, H p = some o → H' p = some o) (k2 : ∀ o, H d = some o → H' d = some o) : SpD a H' p d first rows φ := by
  obtain ⟨dx, low, M, h1, h2, h3⟩ := h
  exact ⟨dx, low, M, k1 _ h1, k2 _ h2, h3⟩
theorem StorP.keep {a : Ad} {H H' : Hp} {S : Addr} {m : SM} {ψ : Int → Int → Int} (h : StorP a H S m ψ) (k : ∀ b o, H b = some o → StR S m b → H' b = some o) : StorP a H' S m ψ :=
  ⟨k _ _ h.hS .s, k _ _ h.hm .ml, k _ _ h.hs .spd, fun d md => (h.sp d md).keep (fun o e => k _ _ e (.s1 d md)) (fun o e => k _ _ e (.s2 d md)), h.su, k _ _ h.hb .bd, k _ _ h.hM .md, h.bm,
    fun b mb => ⟨k _ _ (h.blk b mb).t (.t b mb), k _ _ (h.blk b mb).pt (.pt b mb), fun e me => k _ _ ((h.blk b mb).q e me) (.q b e mb me), fun z => k _ _ ((h.blk b mb).w z) (.w b mb z)⟩, h.nd, h.m0, h.ser, h.un, h.row, h.dis, h.asc, h.op⟩
theorem StorP.same {a : Ad} {H H' : Hp} {S : Addr} {m : SM} {ψ : Int → Int → Int} (h : StorP a H S m ψ) (s : Same H H') : StorP a H' S m ψ := h.keep fun b o e _ => s _ _ e
theorem StorP.there {a : Ad} {H : Hp} {S : Addr} {m : SM} {ψ : Int → Int → Int} (h : StorP a H S m ψ) {b : Addr} (r : StR S m b) : ∃ o, H b = some o := by
  cases r with
  | s => exact ⟨_, h.hS⟩
  | ml => exact ⟨_, h.hm⟩
  | spd => exact ⟨_, h.hs⟩
  | bd => exact ⟨_, h.hb⟩
  | md => exact ⟨_, h.hM⟩
  | s1 d md => obtain ⟨_, _, _, e, _⟩ := h.sp d md; exact ⟨_, e⟩
  | s2 d md => obtain ⟨_, _, _, _, e, _⟩ := h.sp d md; exact ⟨_, e⟩
  | t b mb => exact ⟨_, (h.blk b mb).t⟩
  | pt b mb => exact ⟨_, (h.blk b mb).pt⟩
  | w b mb z => exact ⟨_, (h.blk b mb).w z⟩
  | q b e mb me => exact ⟨_, (h.blk b mb).q e me⟩
theorem StorP.fresh {a : Ad} {H : Hp} {S : Addr} {m : SM} {ψ : Int → Int → Int} (h : StorP a H S m ψ) {b : Addr} (n : H b = none) : ¬ StR S m b := fun r => by
  obtain ⟨o, e⟩ := h.there r
  rw [n] at e
  cases e
theorem StorP.put {a : Ad} {H : Hp} {S : Addr} {m : SM} {ψ : Int → Int → Int} (h : StorP a H S m ψ) {b : Addr} {o : HO} (n : ¬ StR S m b) : StorP a (upd H b o) S m ψ := h.keep fun c u e r => by
  rw [upd_ne fun z => n (by rw [← z]; exact r)]
  exact e
theorem StorP.bkeys {a : Ad} {H : Hp} {S : Addr} {m : SM} {ψ : Int → Int → Int} (h : StorP a H S m ψ) : L2.NKeys H (bxs m.ep m.bl) := fun x mx => by
  obtain ⟨b, mb, rfl⟩ := List.mem_map.mp mx
  exact ⟨(h.blk b mb).nk, keyB_depth _ _⟩
theorem StorP.mkeys {a : Ad} {H : Hp} {S : Addr} {m : SM} {ψ : Int → Int → Int} (h : StorP a H S m ψ) : L2.NKeys H (mxs m.ep m.bl) := fun x mx => by
  obtain ⟨b, mb, rfl⟩ := List.mem_map.mp mx
  have mb := (List.mem_filter.mp mb).1
  exact ⟨(h.blk b mb).nk, keyB_depth _ _⟩
theorem StorP.ser_one {a : Ad} {H : Hp} {S : Addr} {m : SM} {ψ : Int → Int → Int} (h : StorP a H S m ψ) {b c : Blk} (mb : b ∈ m.bl) (mc : c ∈ m.bl) (es : b.s = c.s) : b = c := by
  obtain ⟨i, hi⟩ := List.mem_iff_getElem?.mp mb
  obtain ⟨j, hj⟩ := List.mem_iff_getElem?.mp mc
  have li := item_lt hi
  have lj := item_lt hj
  have e1 : m.bl[i] = b := Option.some.inj ((List.getElem?_eq_getElem li).symm.trans hi)
  have e2 : m.bl[j] = c := Option.some.inj ((List.getElem?_eq_getElem lj).symm.trans hj)
  have un := h.un
  unfold List.Nodup at un
  rw [List.pairwise_iff_getElem] at un
  rcases Nat.lt_trichotomy i j with z | z | z
  · exact absurd (by rw [List.getElem_map, List.getElem_map, e1, e2]; exact es) (un i j (by rw [List.length_map]; exact li) (by rw [List.length_map]; exact lj) z)
  · subst z
    exact e1.symm.trans e2
  · exact absurd (by rw [List.getElem_map, List.getElem_map, e1, e2]; exact es.symm) (un j i (by rw [List.length_map]; exact lj) (by rw [List.length_map]; exact li) z)
theorem StorP.key_one {a : Ad} {H : Hp} {S : Addr} {m : SM} {ψ : Int → Int → Int} (h : StorP a H S m ψ) {b c : Blk} (mb : b ∈ m.bl) (mc : c ∈ m.bl) (e : keyB m.ep b = keyB m.ep c) : b = c := h.ser_one mb mc (keyB_inj e)
/-- the list of a block, in memory -/
theorem at_mx0 {ep : Int} : ∀ {bl : List Blk} {b : Blk}, b ∈ bl → (∀ c ∈ bl, keyB ep c = keyB ep b → c = b) → L2.atN (mx0 ep bl) (keyB ep b) = some (b.T, V.ref b.W)
  | c :: bl, b, mb, h => by
    by_cases e : keyB ep c = keyB ep b
    · have := h c (by simp) e
      subst this
      simp [L2.atN, mx0]
    · have mb' : b ∈ bl := by
        rcases List.mem_cons.mp mb with z | z
        · exact absurd (by rw [z]) e
        · exact z
      have ih := at_mx0 (ep := ep) mb' fun d md => h d (List.mem_cons_of_mem _ md)
      unfold L2.atN mx0 at ih ⊢
      rw [List.map_cons, List.find?_cons, decide_eq_false e]
      exact ih
theorem StorP.mem {a : Ad} {H : Hp} {S : Addr} {m : SM} {ψ : Int → Int → Int} (h : StorP a H S m ψ) {b : Blk} (mb : b ∈ m.bl) (z : b.mem = true) : L2.atN (mxs m.ep m.bl) (keyB m.ep b) = some (b.T, V.ref b.W) := at_mx0 (List.mem_filter.mpr ⟨mb, z⟩) fun _ mc e => h.key_one (List.mem_filter.mp mc).1 mb e
theorem StorP.nomem {a : Ad} {H : Hp} {S : Addr} {m : SM} {ψ : Int → Int → Int} (h : StorP a H S m ψ) {b : Blk} (mb : b ∈ m.bl) (z : b.mem = false) : (L2.atN (mxs m.ep m.bl) (keyB m.ep b)).isSome = false := by
  rw [Bool.eq_false_iff]
  intro y
  obtain ⟨x, mx, e⟩ := atN_iff.mp y
  obtain ⟨c, mc, rfl⟩ := List.mem_map.mp mx
  obtain ⟨mc, zc⟩ := List.mem_filter.mp mc
  rw [h.key_one mc mb e, z] at zc
  cases zc
def SM.put (m : SM) (b : Blk) : SM := { m with made := m.made + 1, bl := m.bl ++ [b] }
def SM.with (m : SM) (bl : List Blk) : SM := { m with bl := bl }
theorem val_sp {f : Int → Addr} : ∀ {ms : List Int} {d : Int}, d ∈ ms → valV (ms.map fun d => ((Sum.inl d : Key), V.ref (f d))) (Sum.inl d) = some (V.ref (f d))
  | x :: ms, d, m => by
    unfold valV
    rw [List.map_cons, List.find?_cons]
    by_cases e : x = d
    · subst e
      rw [decide_eq_true rfl]
      rfl
    · rw [decide_eq_false (show ¬ (Sum.inl x : Key) = Sum.inl d from fun z => e (Sum.inl.inj z))]
      rcases List.mem_cons.mp m with z | z
      · exact absurd z.symm e
      · exact val_sp z
theorem val_no {f : Int → Addr} : ∀ {ms : List Int} {d : Int}, d ∉ ms → valV (ms.map fun d => ((Sum.inl d : Key), V.ref (f d))) (Sum.inl d) = none
  | [], _, _ => rfl
  | x :: ms, d, m => by
    unfold valV
    rw [List.map_cons, List.find?_cons, decide_eq_false (show ¬ (Sum.inl x : Key) = Sum.inl d from fun z => m (by rw [Sum.inl.inj z]; simp))]
    exact val_no fun z => m (List.mem_cons_of_mem _ z)
theorem StorP.spget {a : Ad} {H : Hp} {S : Addr} {m : SM} {ψ : Int → Int → Int} (h : StorP a H S m ψ) {d : Int} (md : d ∈ m.ms) : DGet H m.spd (.int d) (some (.ref (m.sp d).1)) := by
  have := DGet.k (k := Sum.inl d) h.hs
  rw [val_sp (f := fun d => (m.sp d).1) (h.op.mem_iff.mpr md)] at this
  exact this
/-- one space is another one now -/
theorem StorP.space {a : Ad} {H H' : Hp} {S : Addr} {m : SM} {ψ : Int → Int → Int} (h : StorP a H S m ψ) {d : Int} (md : d ∈ m.ms) {φ : Int → Int} (n : SpD a H' (m.sp d).1 (m.sp d).2 18 m.rows φ) (fr : Frm (m.sp d).1 (m.sp d).2 H H') : StorP a H' S m (fun x => if x = d then φ else ψ x) := by
  obtain ⟨dx, low, M, e1, e2, _⟩ := h.sp d md
  have k : ∀ b o, H b = some o → (∀ q fs, o = .ins a.c_Space q fs → fs.length = 4 → False) → (∀ L, o = .dK (kvM L) → False) → H' b = some o := fun b o e n1 n2 => fr b o e (ne_of e e1 fun z => n1 _ _ z rfl) (ne_of e e2 fun z => n2 _ z)
  refine ⟨k _ _ h.hS (fun q fs z l => ?_) (fun L z => nomatch z), k _ _ h.hm (fun q fs z => nomatch z) (fun L z => nomatch z), k _ _ h.hs (fun q fs z => nomatch z) (fun L z => ?_), fun x mx => ?_, h.su, k _ _ h.hb (fun q fs z => nomatch z) (fun L z => nomatch z), k _ _ h.hM (fun q fs z => nomatch z) (fun L z => nomatch z), h.bm, fun b mb => ?_, h.nd, h.m0, h.ser, h.un, h.row, h.dis, h.asc, h.op⟩
  · injection z with _ _ z
    rw [← z] at l
    exact absurd l (by show ¬ 10 = 4; decide)
  · have z := HO.dK.inj z
    have m1 : ((Sum.inl d : Key), V.ref (m.sp d).1) ∈ kvM L := by
      rw [← z]
      exact List.mem_map.mpr ⟨d, h.op.mem_iff.mpr md, rfl⟩
    obtain ⟨q, _, e⟩ := List.mem_map.mp m1
    cases e
  · by_cases c : x = d
    · subst c
      show SpD a H' _ _ 18 m.rows (if x = x then φ else ψ x)
      rw [if_pos rfl]
      exact n
    · show SpD a H' _ _ 18 m.rows (if x = d then φ else ψ x)
      rw [if_neg c]
      have n1 : ∀ i : Bool, (m.sp x).1 ≠ (m.sp d).1 ∧ (m.sp x).2 ≠ (m.sp d).2 := fun _ => ⟨fun z => c (h.su x mx d md (.inl z)), fun z => c (h.su x mx d md (.inr z))⟩
      obtain ⟨dx', low', M', g1, g2, _⟩ := h.sp x mx
      exact (h.sp x mx).keep (fun o e => fr _ _ e (n1 true).1 (ne_of g1 e2 (by intro z; cases z))) fun o e => fr _ _ e (ne_of g2 e1 (by intro z; cases z)) (n1 true).2
  · have hb := h.blk b mb
    exact ⟨k _ _ hb.t (fun q fs z => nomatch z) (fun L z => nomatch z), k _ _ hb.pt (fun q fs z => nomatch z) (fun L z => nomatch z), fun e me => k _ _ (hb.q e me) (fun q fs z => nomatch z) (fun L z => nomatch z), fun z => k _ _ (hb.w z) (fun q fs z => nomatch z) (fun L z => nomatch z)⟩
theorem StorP.psi {a : Ad} {H : Hp} {S : Addr} {m : SM} {ψ ψ' : Int → Int → Int} (h : StorP a H S m ψ) (e : ∀ d ∈ m.ms, ψ d = ψ' d) : StorP a H S m ψ' :=
  ⟨h.hS, h.hm, h.hs, fun d md => by rw [← e d md]; exact h.sp d md, h.su, h.hb, h.hM, h.bm, h.blk, h.nd, h.m0, h.ser, h.un, h.row, h.dis, h.asc, h.op⟩
theorem sub_flat {α β : Type} (f : α → List β) (p : α → Bool) : ∀ l : List α, ((l.filter p).flatMap f).Sublist (l.flatMap f)
  | [] => List.Sublist.refl _
  | x :: l => by
    rw [List.filter_cons]
    split
    · rw [List.flatMap_cons, List.flatMap_cons]
      exact (List.Sublist.refl _).append (sub_flat f p l)
    · rw [List.flatMap_cons]
      exact (sub_flat f p l).trans (List.sublist_append_right _ _)
theorem StorP.apart {a : Ad} {H : Hp} {S : Addr} {m : SM} {ψ : Int → Int → Int} (h : StorP a H S m ψ) {b c : Blk} (mb : b ∈ m.bl) (mc : c ∈ m.bl) (n : b.s ≠ c.s) : ∀ x ∈ b.L.map (·.2), x ∉ c.L.map (·.2) := fun x mx my => by
  have dis := h.dis
  unfold List.Nodup at dis
  rw [List.pairwise_flatMap] at dis
  have p := dis.2
  rw [List.pairwise_iff_getElem] at p
  obtain ⟨i, hi⟩ := List.mem_iff_getElem?.mp mb
  obtain ⟨j, hj⟩ := List.mem_iff_getElem?.mp mc
  have li := item_lt hi
  have lj := item_lt hj
  have e1 : m.bl[i] = b := Option.some.inj ((List.getElem?_eq_getElem li).symm.trans hi)
  have e2 : m.bl[j] = c := Option.some.inj ((List.getElem?_eq_getElem lj).symm.trans hj)
  rcases Nat.lt_trichotomy i j with z | z | z
  · exact p i j li lj z x (by rw [e1]; exact mx) x (by rw [e2]; exact my) rfl
  · subst z
    exact n (by rw [← e1, e2])
  · exact p j i lj li z x (by rw [e2]; exact my) x (by rw [e1]; exact mx) rfl
theorem phi_zero {bl : List Blk} {d r : Int} : phiM bl d r = 0 ↔ ¬ ∃ b ∈ bl, ∃ q ∈ b.L, q.2 = (d, r) := by
  unfold phiM
  constructor
  · intro h
    split at h
    · unfold codeM at h
      split at h <;> omega
    · next z =>
      rintro ⟨b, mb, q, mq, e⟩
      exact List.find?_eq_none.mp z b mb (List.any_eq_true.mpr ⟨q, mq, decide_eq_true e⟩)
  · intro h
    split
    · next b z =>
      have y := List.find?_some z
      obtain ⟨q, mq, e⟩ := List.any_eq_true.mp y
      exact absurd ⟨b, List.mem_of_find?_eq_some z, q, mq, of_decide_eq_true e⟩ h
    · rfl
theorem phi_of {bl : List Blk} {b : Blk} {d r : Int} (mb : b ∈ bl) {q : Addr × Int × Int} (mq : q ∈ b.L) (e : q.2 = (d, r)) (one : ∀ c ∈ bl, ∀ x ∈ c.L, x.2 = (d, r) → c = b) : phiM bl d r = codeM b := by
  unfold phiM
  split
  · next c z =>
    have y := List.find?_some z
    obtain ⟨x, mx, ex⟩ := List.any_eq_true.mp y
    rw [one c (List.mem_of_find?_eq_some z) x mx (of_decide_eq_true ex)]
  · next z => exact absurd (List.any_eq_true.mpr ⟨q, mq, decide_eq_true e⟩) (List.find?_eq_none.mp z b mb)
theorem StorP.one {a : Ad} {H : Hp} {S : Addr} {m : SM} {ψ : Int → Int → Int} (h : StorP a H S m ψ) {b c : Blk} (mb : b ∈ m.bl) (mc : c ∈ m.bl) {q x : Addr × Int × Int} (mq : q ∈ b.L) (mx : x ∈ c.L) (e : x.2 = q.2) : c = b := Classical.byContradiction fun n => by
  have ns : b.s ≠ c.s := fun z => n (h.ser_one mb mc z).symm
  exact h.apart mb mc ns q.2 (List.mem_map.mpr ⟨q, mq, rfl⟩) (List.mem_map.mpr ⟨x, mx, e⟩)
theorem StorP.phi {a : Ad} {H : Hp} {S : Addr} {m : SM} {ψ : Int → Int → Int} (h : StorP a H S m ψ) {b : Blk} (mb : b ∈ m.bl) {q : Addr × Int × Int} (mq : q ∈ b.L) : phiM m.bl q.2.1 q.2.2 = codeM b := phi_of mb mq rfl fun c mc x mx e => h.one mb mc mq mx e
/-- places given back -/
def giveF (ψ : Int → Int → Int) (X : List (Int × Int)) (d : Int) : Int → Int := fun r => if (d, r) ∈ X then (if ψ d r = 2 then 3 else 0) else ψ d r
theorem give_nil (ψ : Int → Int → Int) (d : Int) : giveF ψ [] d = ψ d := by
  funext r
  unfold giveF
  rw [if_neg (by simp)]
theorem give_snoc {ψ : Int → Int → Int} {X : List (Int × Int)} {q : Int × Int} (n : q ∉ X) (x : Int) : (if x = q.1 then upF (giveF ψ X q.1) q.2 (if giveF ψ X q.1 q.2 = 2 then 3 else 0) else giveF ψ X x) = giveF ψ (X ++ [q]) x := by
  have eq : giveF ψ X q.1 q.2 = ψ q.1 q.2 := by
    unfold giveF
    rw [if_neg n]
  funext r
  rw [eq]
  by_cases c : x = q.1
  · subst c
    rw [if_pos rfl]
    unfold upF giveF
    by_cases c2 : r = q.2
    · subst c2
      rw [if_pos rfl, if_pos (show (q.1, q.2) ∈ X ++ [q] from List.mem_append_right _ (List.mem_singleton.mpr rfl))]
    · have : ((q.1, r) ∈ X ++ [q]) ↔ (q.1, r) ∈ X := by
        rw [List.mem_append, List.mem_singleton]
        exact ⟨fun z => z.elim id fun z => absurd (congrArg Prod.snd z) c2, .inl⟩
      rw [if_neg c2]
      simp only [this]
  · rw [if_neg c]
    unfold giveF
    have : ((x, r) ∈ X ++ [q]) ↔ (x, r) ∈ X := by
      rw [List.mem_append, List.mem_singleton]
      exact ⟨fun z => z.elim id fun z => absurd (congrArg Prod.fst z) c, .inl⟩
    simp only [this]
theorem out_bxs {ep : Int} {bl : List Blk} {b : Blk} (h : ∀ c ∈ bl, c.s = b.s → c = b) : L2.outN (bxs ep bl) (keyB ep b) = bxs ep (bl.filter fun c => decide (c.s ≠ b.s)) := by
  unfold L2.outN bxs
  rw [List.filter_map]
  congr 1
  refine List.filter_congr fun c mc => ?_
  by_cases e : c.s = b.s
  · have := h c mc e
    simp [this]
  · have : keyB ep c ≠ keyB ep b := fun z => e (keyB_inj z)
    simp [e, this]
theorem out_mxs {ep : Int} {bl : List Blk} {b : Blk} (h : ∀ c ∈ bl, c.s = b.s → c = b) : L2.outN (mxs ep bl) (keyB ep b) = mxs ep (bl.filter fun c => decide (c.s ≠ b.s)) := by
  unfold L2.outN mxs mx0
  rw [List.filter_map, List.filter_filter, List.filter_filter]
  congr 1
  refine List.filter_congr fun c mc => ?_
  by_cases e : c.s = b.s
  · have := h c mc e
    simp [this]
  · have : keyB ep c ≠ keyB ep b := fun z => e (keyB_inj z)
    simp [e, this]
theorem mxs_less {ep : Int} {bl : List Blk} {b : Blk} (h : ∀ c ∈ bl, c.s = b.s → c = b) (z : b.mem = false) : mxs ep (bl.filter fun c => decide (c.s ≠ b.s)) = mxs ep bl := by
  unfold mxs mx0
  rw [List.filter_filter]
  congr 1
  refine List.filter_congr fun c mc => ?_
  by_cases e : c.s = b.s
  · have := h c mc e
    rw [this, z]
    simp
  · simp [e]
/-- a block is taken out of the dicts -/
theorem StorP.drop {a : Ad} {H H' : Hp} {S : Addr} {m : SM} {ψ : Int → Int → Int} (h : StorP a H S m ψ) {b : Blk}
    (hB : H' m.bD = some (L2.NO a.wd m.bD (bxs m.ep (m.bl.filter fun c => decide (c.s ≠ b.s))))) (hM : H' m.mD = some (L2.NO a.wd m.mD (mxs m.ep (m.bl.filter fun c => decide (c.s ≠ b.s))))) (kp : ∀ x o, H x = some o → x ≠ m.bD → x ≠ m.mD → H' x = some o) :
    StorP a H' S (m.with (m.bl.filter fun c => decide (c.s ≠ b.s))) ψ := by
  have k : ∀ x o, H x = some o → (∀ f, o ≠ .ext f) → H' x = some o := fun x o e n => kp x o e (ne_of e h.hb (n _)) (ne_of e h.hM (n _))
  have sub : ∀ c ∈ m.bl.filter fun c => decide (c.s ≠ b.s), c ∈ m.bl := fun c mc => (List.mem_filter.mp mc).1
  refine ⟨k _ _ h.hS (fun f z => nomatch z), k _ _ h.hm (fun f z => nomatch z), k _ _ h.hs (fun f z => nomatch z), fun d md => ?_, h.su, hB, hM, h.bm, fun c mc => ?_, h.nd, h.m0, fun c mc => h.ser c (sub c mc), h.un.sublist (List.Sublist.map _ List.filter_sublist), fun c mc => h.row c (sub c mc), h.dis.sublist (sub_flat _ _ _), fun c mc => h.asc c (sub c mc), h.op⟩
  · obtain ⟨dx, low, M, e1, e2, r⟩ := h.sp d md
    exact ⟨dx, low, M, k _ _ e1 (fun f z => nomatch z), k _ _ e2 (fun f z => nomatch z), r⟩
  · have hb := h.blk c (sub c mc)
    exact ⟨k _ _ hb.t (fun f z => nomatch z), k _ _ hb.pt (fun f z => nomatch z), fun e me => k _ _ (hb.q e me) (fun f z => nomatch z), fun z => k _ _ (hb.w z) (fun f z => nomatch z)⟩
def SM.clear (m : SM) (N : Addr) : SM := { m with mD := N, bl := m.bl.map fun b => { b with mem := false } }
theorem plcs_clear (bl : List Blk) : plcs (bl.map fun b => { b with mem := false }) = plcs bl := by
  unfold plcs
  rw [List.flatMap_map]
theorem bxs_clear (ep : Int) (bl : List Blk) : bxs ep (bl.map fun b => { b with mem := false }) = bxs ep bl := by
  unfold bxs
  rw [List.map_map]
  rfl
theorem mxs_clear (ep : Int) (bl : List Blk) : mxs ep (bl.map fun b => { b with mem := false }) = [] := by
  unfold mxs
  rw [List.filter_eq_nil_iff.mpr]
  · rfl
  · intro b mb
    obtain ⟨c, _, rfl⟩ := List.mem_map.mp mb
    exact Bool.false_ne_true
/-- nothing is in memory any more -/
theorem StorP.forgotten {a : Ad} {H H' : Hp} {S N : Addr} {m : SM} {ψ : Int → Int → Int} (h : StorP a H S m ψ) (nN : H N = none) (hS : H' S = some (.ins a.c_Store m.dx (sflds { m with mD := N }))) (hN : H' N = some (L2.NO a.wd N [])) (k : ∀ x o, H x = some o → x ≠ S → H' x = some o) : StorP a H' S (m.clear N) ψ := by
  have kx : ∀ x o, H x = some o → (∀ q fs, o = .ins a.c_Store q fs → fs.length = 10 → False) → H' x = some o := fun x o e n => k x o e (ne_of e h.hS fun z => n _ _ z rfl)
  have nt : ∀ {o : HO}, (∀ q fs, o ≠ .ins a.c_Store q fs) → (∀ q fs, o = .ins a.c_Store q fs → fs.length = 10 → False) := fun n q fs z _ => n q fs z
  refine ⟨hS, kx _ _ h.hm (nt fun q fs z => nomatch z), kx _ _ h.hs (nt fun q fs z => nomatch z), fun d md => ?_, h.su, ?_, ?_, ne_of_none h.hb nN, fun c mc => ?_, h.nd, h.m0, fun c mc => ?_, ?_, fun c mc => ?_, ?_, fun c mc => ?_, h.op⟩
  · obtain ⟨dx, low, M, e1, e2, r⟩ := h.sp d md
    exact ⟨dx, low, M, kx _ _ e1 (fun q fs z l => by injection z with _ _ z; rw [← z] at l; exact absurd l (by show ¬ 4 = 10; decide)), kx _ _ e2 (nt fun q fs z => nomatch z), r⟩
  · show H' m.bD = some (L2.NO a.wd m.bD (bxs m.ep (m.bl.map fun b => { b with mem := false })))
    rw [bxs_clear]
    exact kx _ _ h.hb (nt fun q fs z => nomatch z)
  · show H' N = some (L2.NO a.wd N (mxs m.ep (m.bl.map fun b => { b with mem := false })))
    rw [mxs_clear]
    exact hN
  · obtain ⟨b, mb, rfl⟩ := List.mem_map.mp mc
    have hb := h.blk b mb
    exact ⟨kx _ _ hb.t (nt fun q fs z => nomatch z), kx _ _ hb.pt (nt fun q fs z => nomatch z), fun e me => kx _ _ (hb.q e me) (nt fun q fs z => nomatch z), fun z => Bool.noConfusion z⟩
  · obtain ⟨b, mb, rfl⟩ := List.mem_map.mp mc
    exact h.ser b mb
  · show ((m.bl.map fun b => ({ b with mem := false } : Blk)).map fun c => c.s).Nodup
    rw [List.map_map]
    exact h.un
  · obtain ⟨b, mb, rfl⟩ := List.mem_map.mp mc
    exact h.row b mb
  · show (plcs (m.bl.map fun b => { b with mem := false })).Nodup
    rw [plcs_clear]
    exact h.dis
  · obtain ⟨b, mb, rfl⟩ := List.mem_map.mp mc
    exact h.asc b mb
/-- a space's own dict is another one -/
def SM.resp (m : SM) (d : Int) (e : Addr) : SM := { m with sp := fun x => if x = d then ((m.sp d).1, e) else m.sp x }
theorem StorP.resp {a : Ad} {H H' : Hp} {S : Addr} {m : SM} {ψ : Int → Int → Int} (h : StorP a H S m ψ) {d : Int} (md : d ∈ m.ms) {e : Addr} (ne : H e = none) {φ : Int → Int} (n : SpD a H' (m.sp d).1 e 18 m.rows φ) (fr : Frm (m.sp d).1 (m.sp d).2 H H') : StorP a H' S (m.resp d e) (fun x => if x = d then φ else ψ x) := by
  have g1 : ∀ x ∈ m.ms, ((m.resp d e).sp x).1 = (m.sp x).1 := fun x _ => by
    show (if x = d then ((m.sp d).1, e) else m.sp x).1 = _
    by_cases c : x = d
    · rw [if_pos c, c]
    · rw [if_neg c]
  obtain ⟨dx, low, M, e1, e2, _⟩ := h.sp d md
  have k : ∀ b o, H b = some o → (∀ q fs, o = .ins a.c_Space q fs → fs.length = 4 → False) → (∀ L, o = .dK (kvM L) → False) → H' b = some o := fun b o e n1 n2 => fr b o e (ne_of e e1 fun z => n1 _ _ z rfl) (ne_of e e2 fun z => n2 _ z)
  have off : ∀ x ∈ m.ms, (m.sp x).2 ≠ e := fun x mx => by
    obtain ⟨_, _, _, _, g, _⟩ := h.sp x mx
    exact ne_of_none g ne
  refine ⟨k _ _ h.hS (fun q fs z l => ?_) (fun L z => nomatch z), k _ _ h.hm (fun q fs z => nomatch z) (fun L z => nomatch z), ?_, fun x mx => ?_, fun x mx y my z => ?_, k _ _ h.hb (fun q fs z => nomatch z) (fun L z => nomatch z), k _ _ h.hM (fun q fs z => nomatch z) (fun L z => nomatch z), h.bm, fun b mb => ?_, h.nd, h.m0, h.ser, h.un, h.row, h.dis, h.asc, h.op⟩
  · injection z with _ _ z
    rw [← z] at l
    exact absurd l (by show ¬ 10 = 4; decide)
  · show H' m.spd = some (.dK (m.od.map fun x => ((Sum.inl x : Key), V.ref ((m.resp d e).sp x).1)))
    rw [show (m.od.map fun x => ((Sum.inl x : Key), V.ref ((m.resp d e).sp x).1)) = m.od.map fun x => ((Sum.inl x : Key), V.ref (m.sp x).1) from List.map_congr_left fun x mx => by rw [g1 x (h.op.mem_iff.mp mx)]]
    refine k _ _ h.hs (fun q fs z => nomatch z) fun L z => ?_
    have z := HO.dK.inj z
    have m1 : ((Sum.inl d : Key), V.ref (m.sp d).1) ∈ kvM L := by
      rw [← z]
      exact List.mem_map.mpr ⟨d, h.op.mem_iff.mpr md, rfl⟩
    obtain ⟨q, _, e⟩ := List.mem_map.mp m1
    cases e
  · show SpD a H' ((m.resp d e).sp x).1 ((m.resp d e).sp x).2 18 m.rows (if x = d then φ else ψ x)
    rw [g1 x mx]
    by_cases c : x = d
    · subst c
      show SpD a H' _ (if x = x then ((m.sp x).1, e) else m.sp x).2 18 m.rows (if x = x then φ else ψ x)
      rw [if_pos rfl, if_pos rfl]
      exact n
    · show SpD a H' _ (if x = d then ((m.sp d).1, e) else m.sp x).2 18 m.rows (if x = d then φ else ψ x)
      rw [if_neg c, if_neg c]
      have n1 : (m.sp x).1 ≠ (m.sp d).1 := fun z => c (h.su x mx d md (.inl z))
      have n2 : (m.sp x).2 ≠ (m.sp d).2 := fun z => c (h.su x mx d md (.inr z))
      obtain ⟨dx', low', M', g1, g2, _⟩ := h.sp x mx
      exact (h.sp x mx).keep (fun o e => fr _ _ e n1 (ne_of g1 e2 (by intro z; cases z))) fun o e => fr _ _ e (ne_of g2 e1 (by intro z; cases z)) n2
  · rw [g1 x mx, g1 y my] at z
    rcases z with z | z
    · exact h.su x mx y my (.inl z)
    · change (if x = d then ((m.sp d).1, e) else m.sp x).2 = (if y = d then ((m.sp d).1, e) else m.sp y).2 at z
      by_cases cx : x = d
      · by_cases cy : y = d
        · rw [cx, cy]
        · rw [if_pos cx, if_neg cy] at z
          exact absurd z.symm (off y my)
      · by_cases cy : y = d
        · rw [if_neg cx, if_pos cy] at z
          exact absurd z (off x mx)
        · rw [if_neg cx, if_neg cy] at z
          exact h.su x mx y my (.inr z)
  · have hb := h.blk b mb
    exact ⟨k _ _ hb.t (fun q fs z => nomatch z) (fun L z => nomatch z), k _ _ hb.pt (fun q fs z => nomatch z) (fun L z => nomatch z), fun e me => k _ _ (hb.q e me) (fun q fs z => nomatch z) (fun L z => nomatch z), fun z => k _ _ (hb.w z) (fun q fs z => nomatch z) (fun L z => nomatch z)⟩
theorem seq_keep {K : PySem.W.Frag} {H H' : Hp} {P : Addr} {xs : List V} (h : SqL K H P xs) (k : ∀ o, H P = some o → H' P = some o) : SqL K H' P xs := by
  rcases h with (h | ⟨o, h⟩) | h
  · exact .inl (.inl (k _ h))
  · exact .inl (.inr ⟨o, k _ h⟩)
  · exact .inr h
def usedM (m : SM) (d : Int) : Nat := (pickL 18 m.rows (phiM m.bl d) fun s => decide (s ≠ 0)).length
theorem inV_intsS (x : Int) : ∀ ws : List Int, inV (.int x) (ws.map V.int) = decide (x ∈ ws)
  | [] => rfl
  | w :: ws => by
    have ih := inV_intsS x ws
    unfold inV at ih ⊢
    rw [List.map_cons, List.any_cons, ih]
    by_cases h : x = w
    · subst h
      simp [eqV]
    · simp [eqV, h]
      exact fun z => absurd z.symm h
theorem flat_intsS (ws : List Int) : (ws.map V.int).all flatV = true := List.all_eq_true.mpr fun x m => by
  obtain ⟨w, _, rfl⟩ := List.mem_map.mp m
  rfl
theorem best_facts {U : List Cd} {w : Nat} (nd : (U.map (·.d)).Nodup) (hw : w ≤ U.length) : (bestM U w).length = w ∧ (bestM U w).Nodup ∧ ∀ x ∈ bestM U w, ∃ e ∈ U, e.d = x := by
  have p : (U.mergeSort leM).Perm U := List.mergeSort_perm U leM
  have s : (U.mergeSort leM).Pairwise fun x y => leM x y = true := List.pairwise_mergeSort leM_trans leM_total U
  have b := best_of (w := w) p (strict_of s ((p.map _).nodup_iff.mpr nd))
  refine ⟨?_, ?_, fun x m => ?_⟩
  · rw [← b.length_eq, List.length_map, List.length_take, p.length_eq]
    omega
  · exact (List.Sublist.map _ List.filter_sublist).nodup nd
  · obtain ⟨e, me, rfl⟩ := List.mem_map.mp m
    exact ⟨e, (List.mem_filter.mp me).1, rfl⟩
theorem one_row {d : Int} : ∀ {L : List (Addr × Int × Int)}, (L.map fun e => e.2.1).Pairwise (· < ·) → (L.filter fun e => decide (e.2.1 = d)).length ≤ 1 := fun {L} h => by
  have p : (L.filter fun e => decide (e.2.1 = d)).Pairwise (fun x y => x.2.1 < y.2.1) := (List.pairwise_map.mp h).sublist List.filter_sublist
  have q : ∀ e ∈ L.filter fun e => decide (e.2.1 = d), e.2.1 = d := fun e m => of_decide_eq_true (List.mem_filter.mp m).2
  revert p q
  generalize (L.filter fun e => decide (e.2.1 = d)) = M
  intro p q
  match M, p, q with
  | [], _, _ => exact Nat.zero_le _
  | [x], _, _ => exact Nat.le_refl _
  | x :: y :: R, p, q =>
    have h1 := (List.pairwise_cons.mp p).1 y (by simp)
    have h2 := q x (by simp)
    have h3 := q y (by simp)
    omega
theorem flat_le {α β : Type} {f : α → List β} : ∀ {l : List α}, (∀ x ∈ l, (f x).length ≤ 1) → (l.flatMap f).length ≤ l.length
  | [], _ => Nat.le_refl _
  | x :: l, h => by
    rw [List.flatMap_cons, List.length_append, List.length_cons]
    have := h x (by simp)
    have := flat_le (l := l) fun y m => h y (List.mem_cons_of_mem _ m)
    omega
theorem StorP.used {a : Ad} {H : Hp} {S : Addr} {m : SM} {ψ : Int → Int → Int} (h : StorP a H S m ψ) (d : Int) : usedM m d ≤ m.bl.length := by
  have nd : (pickL 18 m.rows (phiM m.bl d) fun s => decide (s ≠ 0)).Nodup := ((rowsL_lt 18 m.rows).imp fun h => Int.ne_of_lt h).sublist List.filter_sublist
  refine Nat.le_trans (List.Nodup.length_le_of_subset (l₂ := m.bl.flatMap fun b => (b.L.filter fun e => decide (e.2.1 = d)).map (·.2.2)) nd fun r mr => ?_) (flat_le fun b mb => by rw [List.length_map]; exact one_row (h.asc b mb))
  have z := of_decide_eq_true (List.mem_filter.mp mr).2
  have c : ∃ b ∈ m.bl, ∃ q ∈ b.L, q.2 = (d, r) := Classical.byContradiction fun y => z (phi_zero.mpr y)
  obtain ⟨b, mb, q, mq, e⟩ := c
  refine List.mem_flatMap.mpr ⟨b, mb, List.mem_map.mpr ⟨q, List.mem_filter.mpr ⟨mq, decide_eq_true (by rw [e])⟩, by rw [e]⟩⟩
/-- not all rows of a disk are used -/
theorem StorP.room {a : Ad} {H : Hp} {S : Addr} {m : SM} {ψ : Int → Int → Int} (h : StorP a H S m ψ) (hl : m.bl.length + 18 < m.rows) (d : Int) : ¬ ∀ r, InR 18 m.rows r → phiM m.bl d r ≠ 0 := fun z => by
  have e : pickL 18 m.rows (phiM m.bl d) (fun s => decide (s ≠ 0)) = rowsL 18 m.rows := List.filter_eq_self.mpr fun r mr => decide_eq_true (z r (rowsL_mem.mp mr))
  have := h.used d
  unfold usedM at this
  rw [e, rowsL_len] at this
  omega
/-- the blocks' rows and those of new places -/
def psiT (bl : List Blk) (PL : List (Addr × Int × Int)) (d : Int) : Int → Int := fun r => if PL.any (fun q => decide (q.2 = (d, r))) = true then 1 else phiM bl d r
theorem psi_add (bl : List Blk) (b : Blk) (z : b.mem = true) (n : ∀ q ∈ b.L, phiM bl q.2.1 q.2.2 = 0) (d : Int) : psiT bl b.L d = phiM (bl ++ [b]) d := by
  funext r
  unfold psiT
  by_cases c : ∃ q ∈ b.L, q.2 = (d, r)
  · obtain ⟨q, mq, e⟩ := c
    rw [if_pos (List.any_eq_true.mpr ⟨q, mq, decide_eq_true e⟩)]
    have n0 := n q mq
    rw [e] at n0
    refine ((phi_of (b := b) (List.mem_append_right _ (by simp)) mq e fun x mx y my ey => ?_).trans (by unfold codeM; rw [if_pos z])).symm
    rcases List.mem_append.mp mx with mx | mx
    · exact absurd ⟨x, mx, y, my, ey⟩ (phi_zero.mp n0)
    · exact List.mem_singleton.mp mx
  · rw [if_neg fun y => c ?_]
    · unfold phiM
      rw [List.find?_append]
      cases y : bl.find? fun b => b.L.any fun q => decide (q.2 = (d, r)) with
      | some x => rfl
      | none =>
        have : [b].find? (fun b => b.L.any fun q => decide (q.2 = (d, r))) = none := by
          rw [List.find?_eq_none]
          intro x mx
          rw [List.mem_singleton.mp mx]
          intro w
          obtain ⟨q, mq, e⟩ := List.any_eq_true.mp w
          exact c ⟨q, mq, of_decide_eq_true e⟩
        rw [this]
        rfl
    · obtain ⟨q, mq, e⟩ := List.any_eq_true.mp y
      exact ⟨q, mq, of_decide_eq_true e⟩
theorem new_place {α : Type} {A B : List α} {x : α} {j : Nat} (nd : (A ++ B).Nodup) (h : B[j]? = some x) : x ∉ A ++ B.take j := by
  have s : (A ++ B.take (j + 1)).Nodup := nd.sublist ((List.Sublist.refl A).append (List.take_sublist _ _))
  rw [take_snoc h, ← List.append_assoc, List.nodup_append] at s
  exact fun m => s.2.2 x m x (by simp) rfl
theorem plcs_snoc (bl : List Blk) (b : Blk) : plcs (bl ++ [b]) = plcs bl ++ b.L.map (·.2) := by
  unfold plcs
  rw [List.flatMap_append, List.flatMap_cons, List.flatMap_nil, List.append_nil]
theorem plcs_sub {l' l : List Blk} (s : l'.Sublist l) : (plcs l').Sublist (plcs l) := by
  unfold plcs
  induction s with
  | slnil => exact List.Sublist.refl _
  | cons x s ih =>
    rw [List.flatMap_cons]
    exact ih.trans (List.sublist_append_right _ _)
  | cons_cons x s ih =>
    rw [List.flatMap_cons, List.flatMap_cons]
    exact (List.Sublist.refl _).append ih
theorem mem_plcs {bl : List Blk} {x : Int × Int} : x ∈ plcs bl ↔ ∃ b ∈ bl, ∃ q ∈ b.L, q.2 = x := by
  unfold plcs
  rw [List.mem_flatMap]
  constructor
  · rintro ⟨b, mb, mx⟩
    obtain ⟨q, mq, e⟩ := List.mem_map.mp mx
    exact ⟨b, mb, q, mq, e⟩
  · rintro ⟨b, mb, q, mq, e⟩
    exact ⟨b, mb, List.mem_map.mpr ⟨q, mq, e⟩⟩
theorem settle_phi {a : Ad} {H : Hp} {S : Addr} {m : SM} {ψ : Int → Int → Int} (h : StorP a H S m ψ) (p : Blk → Bool) (d : Int) : settF (giveF (phiM m.bl) (plcs (m.bl.filter fun b => !p b)) d) = phiM ((m.bl.filter p).map fun b => { b with mem := false }) d := by
  funext r
  by_cases c : ∃ b ∈ m.bl, ∃ q ∈ b.L, q.2 = (d, r)
  · obtain ⟨b, mb, q, mq, e⟩ := c
    have v := h.phi mb mq
    rw [show q.2.1 = d by rw [e], show q.2.2 = r by rw [e]] at v
    by_cases pb : p b = true
    · have n : (d, r) ∉ plcs (m.bl.filter fun b => !p b) := fun z => by
        obtain ⟨x, mx, y, my, ey⟩ := mem_plcs.mp z
        obtain ⟨mx, px⟩ := List.mem_filter.mp mx
        rw [h.one mb mx mq my (by rw [ey, e]), pb] at px
        cases px
      have g : giveF (phiM m.bl) (plcs (m.bl.filter fun b => !p b)) d r = codeM b := by
        unfold giveF
        rw [if_neg n, v]
      have hc : codeM b = 1 ∨ codeM b = 2 := by unfold codeM; split <;> simp
      have e1 : phiM ((m.bl.filter p).map fun b => { b with mem := false }) d r = codeM { b with mem := false } := phi_of (List.mem_map.mpr ⟨b, List.mem_filter.mpr ⟨mb, pb⟩, rfl⟩) mq e fun x mx y my ey => by
        obtain ⟨x', mx', rfl⟩ := List.mem_map.mp mx
        rw [h.one mb (List.mem_filter.mp mx').1 mq my (by rw [ey, e])]
      rw [e1]
      show (if giveF _ _ d r = 0 ∨ giveF _ _ d r = 3 then (0 : Int) else 2) = 2
      rw [g, if_neg (by omega)]
    · have n : (d, r) ∈ plcs (m.bl.filter fun b => !p b) := mem_plcs.mpr ⟨b, List.mem_filter.mpr ⟨mb, by simpa using pb⟩, q, mq, e⟩
      have g : giveF (phiM m.bl) (plcs (m.bl.filter fun b => !p b)) d r = 0 ∨ giveF (phiM m.bl) (plcs (m.bl.filter fun b => !p b)) d r = 3 := by
        unfold giveF
        rw [if_pos n]
        split <;> simp
      have e1 : phiM ((m.bl.filter p).map fun b => { b with mem := false }) d r = 0 := phi_zero.mpr fun ⟨x, mx, y, my, ey⟩ => by
        obtain ⟨x', mx', rfl⟩ := List.mem_map.mp mx
        obtain ⟨mx', px⟩ := List.mem_filter.mp mx'
        rw [h.one mb mx' mq my (by rw [ey, e])] at px
        exact pb px
      rw [e1]
      show (if giveF _ _ d r = 0 ∨ giveF _ _ d r = 3 then (0 : Int) else 2) = 0
      rw [if_pos g]
  · have n : (d, r) ∉ plcs (m.bl.filter fun b => !p b) := fun z => by
      obtain ⟨x, mx, y, my, ey⟩ := mem_plcs.mp z
      exact c ⟨x, (List.mem_filter.mp mx).1, y, my, ey⟩
    have g : giveF (phiM m.bl) (plcs (m.bl.filter fun b => !p b)) d r = 0 := by
      unfold giveF
      rw [if_neg n]
      exact phi_zero.mpr c
    have e1 : phiM ((m.bl.filter p).map fun b => { b with mem := false }) d r = 0 := phi_zero.mpr fun ⟨x, mx, y, my, ey⟩ => by
      obtain ⟨x', mx', rfl⟩ := List.mem_map.mp mx
      exact c ⟨x', (List.mem_filter.mp mx').1, y, my, ey⟩
    rw [e1]
    show (if giveF _ _ d r = 0 ∨ giveF _ _ d r = 3 then (0 : Int) else 2) = 0
    rw [g, if_pos (.inl rfl)]
theorem StorP.width {a : Ad} {H : Hp} {S : Addr} {m : SM} {ψ : Int → Int → Int} (h : StorP a H S m ψ) {b : Blk} (mb : b ∈ m.bl) : b.L.length ≤ m.ms.length := by
  have nd : (b.L.map fun e => e.2.1).Nodup := (h.asc b mb).imp fun z => Int.ne_of_lt z
  have := List.Nodup.length_le_of_subset nd (l₂ := m.ms) fun x mx => by
    obtain ⟨e, me, rfl⟩ := List.mem_map.mp mx
    exact (h.row b mb e me).1
  rw [List.length_map] at this
  exact this
/-! promises -/
def sp_Store_init (K : PySem.W.Frag) (a : Ad) : Sp := fun vs H Q _ => ∃ (S dx M : Addr) (d p r : Nat) (e : Int) (ms : List Int), vs = [.ref S, .int (d : Int), .int (p : Int), .int (r : Int), .ref M, .int e] ∧ H S = some (.ins a.c_Store dx []) ∧ H M = some (.lst (ms.map V.int)) ∧ ms.Pairwise (· < ·) ∧ (∀ x ∈ ms, 0 ≤ x ∧ x < 8) ∧ ms.length ≤ 8 ∧ 18 ≤ r ∧ r ≤ 100 ∧
  ∀ (m : SM) (H' : Hp), Stor a H' S m → m.data = d → m.par = p → m.rows = r → m.made = 0 → m.ep = e → m.ms = ms → m.bl = [] → (∀ b o, H b = some o → b ≠ S → H' b = some o) → (∀ b, StR S m b → b = S ∨ H b = none) → Q .non H'
theorem sp_Store_init_len {K : PySem.W.Frag} {a : Ad} {vs : List V} {H : Hp} {Q : VK} {E : XK} (h : sp_Store_init K a vs H Q E) : vs.length = 6 := by
  obtain ⟨S, dx, M, d, p, r, e, ms, rfl, _⟩ := h
  rfl
def sp_Store_look (K : PySem.W.Frag) (a : Ad) : Sp := fun vs H Q _ => ∃ (S I : Addr) (m : SM), vs = [.ref S, .ref I] ∧ Stor a H S m ∧
  ∀ H', Stor a H' S { m with I := I } → (∀ b o, H b = some o → b ≠ S → H' b = some o) → Q .non H'
theorem sp_Store_look_len {K : PySem.W.Frag} {a : Ad} {vs : List V} {H : Hp} {Q : VK} {E : XK} (h : sp_Store_look K a vs H Q E) : vs.length = 2 := by
  obtain ⟨S, I, m, rfl, _⟩ := h
  rfl
def sp_Store_free_counts (K : PySem.W.Frag) (a : Ad) : Sp := fun vs H Q _ => ∃ (S : Addr) (m : SM), vs = [.ref S] ∧ Stor a H S m ∧ m.ms.length ≤ 8 ∧
  ∀ (D : Addr) (L : List (Addr × Int × Int)) (H' : Hp), Same H H' → H D = none → H' D = some (.lst (L.map fun e => V.ref e.1)) → (∀ e ∈ L, H' e.1 = some (.tup [.int e.2.1, .int e.2.2])) → L.map (·.2) = m.ms.map (fun d => (d, (m.rows : Int) - (18 : Nat) - (usedM m d : Nat))) → Q (.ref D) H'
theorem sp_Store_free_counts_len {K : PySem.W.Frag} {a : Ad} {vs : List V} {H : Hp} {Q : VK} {E : XK} (h : sp_Store_free_counts K a vs H Q E) : vs.length = 1 := by
  obtain ⟨S, m, rfl, _⟩ := h
  rfl
def sp_Store_put (K : PySem.W.Frag) (a : Ad) : Sp := fun vs H Q E => ∃ (S W A : Addr) (m : SM) (ws av : List Int) (ims : List (Option Addr)), vs = [.ref S, .ref W, .ref A] ∧ Stor a H S m ∧ SqL K H W (ws.map V.int) ∧ ¬ StR S m W ∧ (SqL K H A (av.map V.int) ∨ SqT K H A (av.map V.int)) ∧ SqL K H m.I (ims.map refI) ∧ ims.length ≤ 100 ∧ ws.length ≤ 9000 ∧ m.rows ≤ 100 ∧ m.ms.length ≤ 8 ∧ 1 ≤ m.data ∧ m.data + m.par ≤ 8 ∧
  (1000 * m.data < ws.length → ∀ H', Same H H' → E (.ref a.c_InvalidArgument) none H') ∧
  (ws.length ≤ 1000 * m.data → (m.ms.filter fun d => decide (d ∉ av)).length < m.data + m.par → ∀ H', Same H H' → E (.ref a.c_NotEnoughDisks) none H') ∧
  (ws.length ≤ 1000 * m.data → m.data + m.par ≤ (m.ms.filter fun d => decide (d ∉ av)).length → m.bl.length + 18 < m.rows ∧ m.bl.length ≤ 50 ∧
    ∀ (b : Blk) (H' : Hp), Stor a H' S (m.put b) → b.mem = true → b.s = m.made → b.ws = ws → b.L.length = m.data + m.par → (∀ e ∈ b.L, e.2.1 ∉ av) → (∀ x o, H x = some o → ¬ StR S m x → H' x = some o) → (∀ x, StR S (m.put b) x → StR S m x ∨ H x = none) → Q (.ref b.T) H')
theorem sp_Store_put_len {K : PySem.W.Frag} {a : Ad} {vs : List V} {H : Hp} {Q : VK} {E : XK} (h : sp_Store_put K a vs H Q E) : vs.length = 3 := by
  obtain ⟨S, W, A, m, ws, av, ims, rfl, _⟩ := h
  rfl
/-- some of the blocks go -/
def sp_Store_forget (K : PySem.W.Frag) (a : Ad) : Sp := fun vs H Q _ => ∃ (S P : Addr) (m : SM) (gs : List Blk) (ψ : Int → Int → Int), vs = [.ref S, .ref P] ∧ StorP a H S m ψ ∧ SqL K H P (gs.map fun b => V.ref b.T) ∧ ¬ StR S m P ∧ gs.Sublist m.bl ∧ m.bl.length ≤ 50 ∧ m.rows ≤ 1000 ∧ (∀ b ∈ gs, ∀ q ∈ b.L, ψ q.2.1 q.2.2 = 1 ∨ ψ q.2.1 q.2.2 = 2) ∧
  ∀ (H' : Hp), StorP a H' S (m.with (m.bl.filter fun b => decide (b.s ∉ gs.map (·.s)))) (giveF ψ (plcs gs)) → (∀ x o, H x = some o → ¬ StR S m x → H' x = some o) → Q .non H'
theorem sp_Store_forget_len {K : PySem.W.Frag} {a : Ad} {vs : List V} {H : Hp} {Q : VK} {E : XK} (h : sp_Store_forget K a vs H Q E) : vs.length = 2 := by
  obtain ⟨S, P, m, gs, ψ, rfl, _⟩ := h
  rfl
/-- m' is m, but for its blocks and their rows -/
structure Cm (m m' : SM) : Prop where
  data : m'.data = m.data
  par : m'.par = m.par
  rows : m'.rows = m.rows
  made : m'.made = m.made
  ep : m'.ep = m.ep
  I : m'.I = m.I
def sp_Store_commit (K : PySem.W.Frag) (a : Ad) : Sp := fun vs H Q _ => ∃ (S LV : Addr) (m : SM) (ls : List Blk) (ims : List (Option Addr)), vs = [.ref S, .ref LV] ∧ Stor a H S m ∧ SqL K H LV (ls.map fun b => V.ref b.T) ∧ (∀ b ∈ ls, b ∈ m.bl) ∧ ls.length ≤ 100 ∧ m.bl.length ≤ 50 ∧ m.rows ≤ 1000 ∧ SqL K H m.I (ims.map refI) ∧ ims.length ≤ 100 ∧ 1 ≤ m.data ∧ (0 ≤ m.ep ∧ m.ep < 65521) ∧ m.made ≤ 100000 ∧ m.ms.length ≤ 8 ∧ (∀ b ∈ m.bl, b.mem = true → b.ws.length ≤ 400 ∧ m.data ≤ b.L.length) ∧
  ∀ (D : Addr) (m' : SM) (H' : Hp), Stor a H' S m' → Cm m m' → m'.ms = m.ms → m'.bl = ((m.bl.filter fun b => decide (b.s ∈ ls.map (·.s))).map fun b => { b with mem := false }) → (∀ x o, H x = some o → ¬ StR S m x → H' x = some o) → (∀ x, StR S m' x → StR S m x ∨ H x = none) →
    H D = none → Q (.ref D) H'
theorem sp_Store_commit_len {K : PySem.W.Frag} {a : Ad} {vs : List V} {H : Hp} {Q : VK} {E : XK} (h : sp_Store_commit K a vs H Q E) : vs.length = 2 := by
  obtain ⟨S, LV, m, ls, ims, rfl, _⟩ := h
  rfl
/-! members come and go -/
theorem sf_set_members (m : SM) (M : Addr) : putF "members" (.ref M) (sflds m) = sflds { m with mL := M } := by kernel_rfl
theorem val_sp_some {f : Int → Addr} {ms : List Int} {d : Int} (h : d ∉ ms) : putK (ms.map fun d => ((Sum.inl d : Key), V.ref (f d))) (Sum.inl d) (.ref (f d)) = (ms ++ [d]).map fun d => ((Sum.inl d : Key), V.ref (f d)) := by
  rw [putK_new _ (val_no h), List.map_append]
  rfl
theorem phi_range (bl : List Blk) (d r : Int) : phiM bl d r = 0 ∨ phiM bl d r = 1 ∨ phiM bl d r = 2 := by
  unfold phiM
  split
  · unfold codeM
    split <;> simp
  · exact .inl rfl
theorem pick_used (m : SM) (d : Int) : (pickL 18 m.rows (phiM m.bl d) fun s => decide (s = 1 ∨ s = 2)) = pickL 18 m.rows (phiM m.bl d) fun s => decide (s ≠ 0) := List.filter_congr fun r _ => by
  have := phi_range m.bl d r
  refine decide_eq_decide.mpr ?_
  omega
theorem pick_none (m : SM) (d : Int) : (pickL 18 m.rows (phiM m.bl d) fun s => decide (s = 3)) = [] := List.filter_eq_nil_iff.mpr fun r _ => by
  have := phi_range m.bl d r
  intro z
  have z := of_decide_eq_true z
  omega
theorem StorP.idle {a : Ad} {H : Hp} {S : Addr} {m : SM} {ψ : Int → Int → Int} (h : StorP a H S m ψ) {d : Int} (u : usedM m d = 0) {b : Blk} (mb : b ∈ m.bl) {q : Addr × Int × Int} (mq : q ∈ b.L) : q.2.1 ≠ d := fun e => by
  have hr := (h.row b mb q mq).2
  have : q.2.2 ∈ pickL 18 m.rows (phiM m.bl d) fun s => decide (s ≠ 0) := by
    refine List.mem_filter.mpr ⟨rowsL_mem.mpr hr, decide_eq_true fun z => ?_⟩
    exact phi_zero.mp z ⟨b, mb, q, mq, Prod.ext e rfl⟩
  unfold usedM at u
  rw [List.length_eq_zero_iff.mp u] at this
  cases this
theorem drop_sp {f : Int → Addr} {d : Int} (ms : List Int) : dropK (ms.map fun d => ((Sum.inl d : Key), V.ref (f d))) (Sum.inl d) = (ms.filter fun x => decide (x ≠ d)).map fun d => ((Sum.inl d : Key), V.ref (f d)) := by
  unfold dropK
  rw [List.filter_map]
  congr 1
  refine List.filter_congr fun x _ => ?_
  show decide ((Sum.inl x : Key) ≠ Sum.inl d) = decide (x ≠ d)
  refine decide_eq_decide.mpr ⟨fun z e => z (by rw [e]), fun z e => z (Sum.inl.inj e)⟩
def sp_Store_add_member (K : PySem.W.Frag) (a : Ad) : Sp := fun vs H Q E => ∃ (S : Addr) (m : SM) (d : Int), vs = [.ref S, .int d] ∧ Stor a H S m ∧ 0 ≤ d ∧ d < 8 ∧ m.ms.length ≤ 8 ∧ 18 ≤ m.rows ∧ m.rows ≤ 100 ∧
  (d ∈ m.ms → ∀ H', Same H H' → E (.ref a.c_InvalidArgument) none H') ∧
  (d ∉ m.ms → ∀ (m' : SM) (H' : Hp), Stor a H' S m' → Cm m m' → m'.bl = m.bl → m'.ms.Perm (m.ms ++ [d]) → (∀ x o, H x = some o → ¬ StR S m x → H' x = some o) → (∀ x, StR S m' x → StR S m x ∨ H x = none) → Q .non H')
theorem sp_Store_add_member_len {K : PySem.W.Frag} {a : Ad} {vs : List V} {H : Hp} {Q : VK} {E : XK} (h : sp_Store_add_member K a vs H Q E) : vs.length = 2 := by
  obtain ⟨S, m, d, rfl, _⟩ := h
  rfl
def sp_Store_drop_member (K : PySem.W.Frag) (a : Ad) : Sp := fun vs H Q E => ∃ (S : Addr) (m : SM) (d : Int), vs = [.ref S, .int d] ∧ Stor a H S m ∧ 0 ≤ d ∧ d < 8 ∧ m.ms.length ≤ 8 ∧ 18 ≤ m.rows ∧ m.rows ≤ 78 ∧
  (d ∉ m.ms ∨ usedM m d ≠ 0 → ∀ H', Same H H' → E (.ref a.c_InvalidArgument) none H') ∧
  (d ∈ m.ms → usedM m d = 0 → ∀ (m' : SM) (H' : Hp), Stor a H' S m' → Cm m m' → m'.bl = m.bl → m'.ms = (m.ms.filter fun x => decide (x ≠ d)) → (∀ x o, H x = some o → ¬ StR S m x → H' x = some o) → (∀ x, StR S m' x → StR S m x ∨ H x = none) → Q .non H')
theorem sp_Store_drop_member_len {K : PySem.W.Frag} {a : Ad} {vs : List V} {H : Hp} {Q : VK} {E : XK} (h : sp_Store_drop_member K a vs H Q E) : vs.length = 2 := by
  obtain ⟨S, m, d, rfl, _⟩ := h
  rfl
/-! the law's own -/
def sp_law_add (K : PySem.W.Frag) (a : Ad) : Sp := fun vs H Q _ => ∃ (S : Addr) (m : SM) (d : Int), vs = [.ref S, .int d] ∧ Stor a H S m ∧ 0 ≤ d ∧ d < 8 ∧ m.ms.length ≤ 8 ∧ 18 ≤ m.rows ∧ m.rows ≤ 100 ∧
  (d ∈ m.ms → ∀ H', Same H H' → Q (.int 3) H') ∧
  (d ∉ m.ms → ∀ (m' : SM) (H' : Hp), Stor a H' S m' → Cm m m' → m'.bl = m.bl → m'.ms.Perm (m.ms ++ [d]) → (∀ x o, H x = some o → ¬ StR S m x → H' x = some o) → (∀ x, StR S m' x → StR S m x ∨ H x = none) → Q (.bl true) H')
theorem sp_law_add_len {K : PySem.W.Frag} {a : Ad} {vs : List V} {H : Hp} {Q : VK} {E : XK} (h : sp_law_add K a vs H Q E) : vs.length = 2 := by
  obtain ⟨S, m, d, rfl, _⟩ := h
  rfl
def sp_law_drop (K : PySem.W.Frag) (a : Ad) : Sp := fun vs H Q _ => ∃ (S : Addr) (m : SM) (d : Int), vs = [.ref S, .int d] ∧ Stor a H S m ∧ 0 ≤ d ∧ d < 8 ∧ m.ms.length ≤ 8 ∧ 18 ≤ m.rows ∧ m.rows ≤ 78 ∧
  (d ∉ m.ms ∨ usedM m d ≠ 0 → ∀ H', Same H H' → Q (.int 3) H') ∧
  (d ∈ m.ms → usedM m d = 0 → ∀ (m' : SM) (H' : Hp), Stor a H' S m' → Cm m m' → m'.bl = m.bl → m'.ms = (m.ms.filter fun x => decide (x ≠ d)) → (∀ x o, H x = some o → ¬ StR S m x → H' x = some o) → (∀ x, StR S m' x → StR S m x ∨ H x = none) → Q (.bl true) H')
theorem sp_law_drop_len {K : PySem.W.Frag} {a : Ad} {vs : List V} {H : Hp} {Q : VK} {E : XK} (h : sp_law_drop K a vs H Q E) : vs.length = 2 := by
  obtain ⟨S, m, d, rfl, _⟩ := h
  rfl
def sp_law_put (K : PySem.W.Frag) (a : Ad) : Sp := fun vs H Q _ => ∃ (S : Addr) (m : SM) (ims : List (Option Addr)), vs = [.ref S] ∧ Stor a H S m ∧ H m.I = some (.lst (ims.map refI)) ∧ ims.length ≤ 100 ∧ m.rows ≤ 100 ∧ m.ms.length ≤ 8 ∧ 1 ≤ m.data ∧ m.data + m.par ≤ 8 ∧
  (m.ms.length < m.data + m.par → ∀ H', Same H H' → Q (.bl true) H') ∧
  (m.data + m.par ≤ m.ms.length → m.bl.length + 18 < m.rows ∧ m.bl.length ≤ 50 ∧
    ∀ (b : Blk) (H' : Hp), Stor a H' S (m.put b) → b.mem = true → b.s = m.made → b.ws.length = 3 → b.L.length = m.data + m.par → (∀ x o, H x = some o → ¬ StR S m x → H' x = some o) → (∀ x, StR S (m.put b) x → StR S m x ∨ H x = none) → Q (.ref b.T) H')
theorem sp_law_put_len {K : PySem.W.Frag} {a : Ad} {vs : List V} {H : Hp} {Q : VK} {E : XK} (h : sp_law_put K a vs H Q E) : vs.length = 1 := by
  obtain ⟨S, m, ims, rfl, _⟩ := h
  rfl
/-- the rows that are used, by the places -/
theorem StorP.used_eq {a : Ad} {H : Hp} {S : Addr} {m : SM} {ψ : Int → Int → Int} (h : StorP a H S m ψ) (d : Int) : ((m.bl.flatMap fun b => b.L.map (·.2)).filter fun q => decide (q.1 = d)).length = usedM m d := by
  have n1 : (pickL 18 m.rows (phiM m.bl d) fun s => decide (s ≠ 0)).Nodup := ((rowsL_lt 18 m.rows).imp fun h => Int.ne_of_lt h).sublist List.filter_sublist
  have n2 : (((m.bl.flatMap fun b => b.L.map (·.2)).filter fun q => decide (q.1 = d)).map (·.2)).Nodup := by
    have n0 := h.dis.sublist (List.filter_sublist (p := fun q => decide (q.1 = d)))
    unfold List.Nodup at n0 ⊢
    rw [List.pairwise_map]
    refine List.Pairwise.imp_of_mem (fun {x y} mx my ne e => ne ?_) n0
    have e1 := of_decide_eq_true (List.mem_filter.mp mx).2
    have e2 := of_decide_eq_true (List.mem_filter.mp my).2
    exact Prod.ext (e1.trans e2.symm) e
  have p := (List.perm_ext_iff_of_nodup n1 n2).mpr fun r => by
    unfold pickL
    rw [List.mem_filter, rowsL_mem, List.mem_map]
    constructor
    · rintro ⟨_, z⟩
      have z := of_decide_eq_true z
      have c : ∃ b ∈ m.bl, ∃ q ∈ b.L, q.2 = (d, r) := Classical.byContradiction fun y => z (phi_zero.mpr y)
      obtain ⟨b, mb, q, mq, e⟩ := c
      exact ⟨q.2, List.mem_filter.mpr ⟨List.mem_flatMap.mpr ⟨b, mb, List.mem_map.mpr ⟨q, mq, rfl⟩⟩, decide_eq_true (by rw [e])⟩, by rw [e]⟩
    · rintro ⟨x, mx, e⟩
      obtain ⟨mx, z⟩ := List.mem_filter.mp mx
      have z := of_decide_eq_true z
      obtain ⟨b, mb, mq⟩ := List.mem_flatMap.mp mx
      obtain ⟨q, mq, e2⟩ := List.mem_map.mp mq
      have eq : q.2 = (d, r) := by rw [e2]; exact Prod.ext z e
      have rw' := (h.row b mb q mq).2
      rw [eq] at rw'
      exact ⟨rw', decide_eq_true fun z => phi_zero.mp z ⟨b, mb, q, mq, eq⟩⟩
  have := p.length_eq
  rw [List.length_map] at this
  exact this.symm
/-- the disks' used rows, as the law counts them -/
def useK (us : List Int) (m : SM) : List (Key × V) := us.map fun d => ((Sum.inl d : Key), V.int (usedM m d : Nat))
theorem val_use {m : SM} : ∀ {us : List Int} {d : Int}, d ∈ us → valV (useK us m) (Sum.inl d) = some (.int (usedM m d : Nat))
  | x :: us, d, h => by
    show valV (((Sum.inl x : Key), V.int (usedM m x : Nat)) :: useK us m) (Sum.inl d) = _
    by_cases e : x = d
    · rw [valV_pos (by rw [e]), e]
    · rw [valV_neg fun z => e (Sum.inl.inj z)]
      rcases List.mem_cons.mp h with z | z
      · exact absurd z.symm e
      · exact val_use z
def sp_law_looks_right (K : PySem.W.Frag) (a : Ad) : Sp := fun vs H Q _ => ∃ (S U : Addr) (m : SM) (us : List Int), vs = [.ref S, .ref U] ∧ Stor a H S m ∧ H U = some (.dK (useK us m)) ∧ us.Perm m.ms ∧ m.ms.length ≤ 8 ∧ m.rows = 64 ∧ ∀ H', Same H H' → Q (.bl true) H'
theorem sp_law_looks_right_len {K : PySem.W.Frag} {a : Ad} {vs : List V} {H : Hp} {Q : VK} {E : XK} (h : sp_law_looks_right K a vs H Q E) : vs.length = 2 := by
  obtain ⟨S, U, m, us, rfl, _⟩ := h
  rfl
/-! the law's own table: a number for each disk -/
def cntK (f : Int → Nat) (us : List Int) : List (Key × V) := us.map fun d => ((Sum.inl d : Key), V.int (f d : Nat))
theorem use_cnt (us : List Int) (m : SM) : useK us m = cntK (usedM m) us := rfl
theorem val_cnt {f : Int → Nat} : ∀ {us : List Int} {d : Int}, d ∈ us → valV (cntK f us) (Sum.inl d) = some (.int (f d : Nat))
  | x :: us, d, h => by
    show valV (((Sum.inl x : Key), V.int (f x : Nat)) :: cntK f us) (Sum.inl d) = _
    by_cases e : x = d
    · rw [valV_pos (by rw [e]), e]
    · rw [valV_neg fun z => e (Sum.inl.inj z)]
      rcases List.mem_cons.mp h with z | z
      · exact absurd z.symm e
      · exact val_cnt z
theorem val_cntN {f : Int → Nat} : ∀ {us : List Int} {d : Int}, d ∉ us → valV (cntK f us) (Sum.inl d) = none
  | [], _, _ => rfl
  | x :: us, d, h => by
    show valV (((Sum.inl x : Key), V.int (f x : Nat)) :: cntK f us) (Sum.inl d) = _
    rw [valV_neg fun z => h (by rw [Sum.inl.inj z]; simp)]
    exact val_cntN fun z => h (List.mem_cons_of_mem _ z)
theorem cnt_congr {f g : Int → Nat} {us : List Int} (h : ∀ d ∈ us, f d = g d) : cntK f us = cntK g us := List.map_congr_left fun d md => by rw [h d md]
theorem put_cnt {f : Int → Nat} {us : List Int} {d : Int} (h : d ∈ us) (v : Nat) : putK (cntK f us) (Sum.inl d) (.int (v : Nat)) = cntK (fun x => if x = d then v else f x) us := by
  unfold putK
  rw [valV_any, val_cnt h, if_pos (show (some (V.int (f d : Nat))).isSome = true from rfl)]
  unfold cntK
  rw [List.map_map]
  refine List.map_congr_left fun x _ => ?_
  show (if (Sum.inl x : Key) = Sum.inl d then ((Sum.inl x : Key), V.int (v : Nat)) else ((Sum.inl x : Key), V.int (f x : Nat))) = (Sum.inl x, V.int ((if x = d then v else f x : Nat) : Nat))
  by_cases e : x = d
  · rw [if_pos (by rw [e]), if_pos e]
  · rw [if_neg fun z => e (Sum.inl.inj z), if_neg e]
theorem put_cntN {f : Int → Nat} {us : List Int} {d : Int} (h : d ∉ us) (v : Nat) : putK (cntK f us) (Sum.inl d) (.int (v : Nat)) = cntK (fun x => if x = d then v else f x) (us ++ [d]) := by
  rw [putK_new _ (val_cntN h)]
  unfold cntK
  rw [List.map_append]
  congr 1
  · refine List.map_congr_left fun x mx => ?_
    show ((Sum.inl x : Key), V.int (f x : Nat)) = (Sum.inl x, V.int ((if x = d then v else f x : Nat) : Nat))
    rw [if_neg fun z : x = d => h (by rw [← z]; exact mx)]
  · show [((Sum.inl d : Key), V.int (v : Nat))] = [(Sum.inl d, V.int ((if d = d then v else f d : Nat) : Nat))]
    rw [if_pos rfl]
theorem cnt_keys (f : Int → Nat) (us : List Int) : (cntK f us).map (·.1) = us.map Sum.inl := by
  unfold cntK
  rw [List.map_map]
  rfl
/-- a list of pairs in order, as dict() reads it -/
theorem merge_cnt {f : Int → Nat} : ∀ {ys xs : List Int}, (xs ++ ys).Nodup → mergeK (cntK f xs) (cntK f ys) = cntK f (xs ++ ys)
  | [], xs, _ => by rw [List.append_nil]; rfl
  | y :: ys, xs, h => by
    have hy : y ∉ xs := fun m => by
      rw [List.nodup_append] at h
      exact h.2.2 y m y (by simp) rfl
    have e : putK (cntK f xs) (Sum.inl y) (.int (f y : Nat)) = cntK f (xs ++ [y]) := by
      rw [putK_new _ (val_cntN hy)]
      unfold cntK
      rw [List.map_append]
      rfl
    have h' : (xs ++ [y] ++ ys).Nodup := by rw [List.append_assoc]; exact h
    have ih := merge_cnt (f := f) (ys := ys) (xs := xs ++ [y]) h'
    rw [← e, List.append_assoc] at ih
    exact ih
/-! counts of blocks' places -/
def plcD (L : List (Int × Int)) (d : Int) : Nat := (L.filter fun q => decide (q.1 = d)).length
theorem plcD_app (A B : List (Int × Int)) (d : Int) : plcD (A ++ B) d = plcD A d + plcD B d := by
  unfold plcD
  rw [List.filter_append, List.length_append]
theorem plcD_one {L : List (Addr × Int × Int)} (asc : (L.map fun e => e.2.1).Pairwise (· < ·)) (d : Int) : plcD (L.map (·.2)) d = if d ∈ L.map (fun e => e.2.1) then 1 else 0 := by
  have h1 := one_row (d := d) asc
  have e : plcD (L.map (·.2)) d = (L.filter fun e => decide (e.2.1 = d)).length := by
    unfold plcD
    rw [List.filter_map, List.length_map]
    rfl
  rw [e]
  by_cases c : d ∈ L.map fun e => e.2.1
  · rw [if_pos c]
    obtain ⟨x, mx, ex⟩ := List.mem_map.mp c
    have : 0 < (L.filter fun e => decide (e.2.1 = d)).length := List.length_pos_of_mem (List.mem_filter.mpr ⟨mx, decide_eq_true ex⟩)
    omega
  · rw [if_neg c, List.length_eq_zero_iff, List.filter_eq_nil_iff]
    exact fun x mx z => c (List.mem_map.mpr ⟨x, mx, of_decide_eq_true z⟩)
theorem plcD_blocks (d : Int) : ∀ {bl : List Blk}, (∀ b ∈ bl, (b.L.map fun e => e.2.1).Pairwise (· < ·)) → plcD (plcs bl) d = (bl.filter fun b => decide (d ∈ b.L.map fun e => e.2.1)).length
  | [], _ => rfl
  | b :: bl, h => by
    have ih := plcD_blocks d (bl := bl) fun c mc => h c (List.mem_cons_of_mem _ mc)
    have e : plcs (b :: bl) = b.L.map (·.2) ++ plcs bl := by
      unfold plcs
      rw [List.flatMap_cons]
    rw [e, plcD_app, ih, plcD_one (h b (by simp)), List.filter_cons]
    split
    · next z => rw [if_pos (decide_eq_true z), List.length_cons]; omega
    · next z => rw [if_neg (by rw [decide_eq_false z]; exact Bool.false_ne_true)]; omega
theorem StorP.used_plc {a : Ad} {H : Hp} {S : Addr} {m : SM} {ψ : Int → Int → Int} (h : StorP a H S m ψ) (d : Int) : usedM m d = plcD (plcs m.bl) d := (h.used_eq d).symm
theorem plcs_map (f : Blk → Blk) (hf : ∀ b, (f b).L = b.L) (bl : List Blk) : plcs (bl.map f) = plcs bl := by
  unfold plcs
  rw [List.flatMap_map]
  congr 1
  funext b
  show (f b).L.map _ = _
  rw [hf b]
theorem asc_le {lo : Int} : ∀ {l : List Int} {hi : Int}, l.Pairwise (· < ·) → (∀ x ∈ l, lo ≤ x ∧ x < hi) → lo ≤ hi → (l.length : Int) ≤ hi - lo
  | [], hi, _, _, h => by simp; omega
  | x :: l, hi, p, b, h => by
    obtain ⟨p1, p2⟩ := List.pairwise_cons.mp p
    have hx := b x (by simp)
    have := asc_le (lo := x + 1) (l := l) (hi := hi) p2 (fun y my => ⟨by have := p1 y my; omega, (b y (List.mem_cons_of_mem _ my)).2⟩) (by omega)
    rw [List.length_cons]
    omega
theorem StorP.ms8 {a : Ad} {H : Hp} {S : Addr} {m : SM} {ψ : Int → Int → Int} (h : StorP a H S m ψ) : m.ms.length ≤ 8 := by
  have := asc_le (lo := 0) (hi := 8) h.nd h.m0 (by decide)
  omega
theorem filter_sub {α : Type} {f : α → Nat} : ∀ {l' l : List α}, l'.Sublist l → (l.map f).Nodup → (∀ q : α → Bool, (∀ x ∈ l, q x = decide (f x ∈ l'.map f)) → l.filter q = l')
  | _, _, .slnil, _, _, _ => rfl
  | l', x :: l, .cons _ s, nd, q, hq => by
    rw [List.map_cons, List.nodup_cons] at nd
    rw [List.filter_cons, hq x (by simp), if_neg, filter_sub s nd.2 q fun y my => hq y (List.mem_cons_of_mem _ my)]
    intro z
    have z := of_decide_eq_true z
    exact nd.1 ((s.map f).subset z)
  | x :: l', _ :: l, .cons_cons _ s, nd, q, hq => by
    rw [List.map_cons, List.nodup_cons] at nd
    rw [List.filter_cons, hq x (by simp), if_pos (by simp), filter_sub s nd.2 q fun y my => ?_]
    rw [hq y (List.mem_cons_of_mem _ my), List.map_cons]
    have : f y ≠ f x := fun z => nd.1 (by rw [← z]; exact List.mem_map.mpr ⟨y, my, rfl⟩)
    by_cases c : f y ∈ l'.map f
    · rw [decide_eq_true c, decide_eq_true (List.mem_cons_of_mem _ c)]
    · rw [decide_eq_false c, decide_eq_false fun z => (List.mem_cons.mp z).elim this c]
theorem str_I {S : Addr} {m : SM} {I b : Addr} (h : StR S { m with I := I } b) : StR S m b := by
  cases h with
  | s => exact .s
  | ml => exact .ml
  | spd => exact .spd
  | bd => exact .bd
  | md => exact .md
  | s1 d md => exact .s1 d md
  | s2 d md => exact .s2 d md
  | t c mc => exact .t c mc
  | pt c mc => exact .pt c mc
  | w c mc z => exact .w c mc z
  | q c e mc me => exact .q c e mc me
/-! the state of the law's loop -/
inductive Ro (S U BK p l : Addr) (m : SM) : Addr → Prop
  | st (x : Addr) : StR S m x → Ro S U BK p l m x
  | i : Ro S U BK p l m m.I
  | u : Ro S U BK p l m U
  | bk : Ro S U BK p l m BK
  | p : Ro S U BK p l m p
  | l : Ro S U BK p l m l
structure R30 (a : Ad) (H : Hp) (S U BK p l : Addr) (m : SM) (uk : List (Key × V)) (bs : List Blk) (ims : List (Option Addr)) : Prop where
  st : Stor a H S m
  P : Pot H p l
  im : H m.I = some (.lst (ims.map refI))
  us : H U = some (.dK uk)
  bk : H BK = some (.lst (bs.map fun b => V.ref b.T))
  nS : ∀ x, StR S m x → x ≠ p ∧ x ≠ l ∧ x ≠ m.I ∧ x ≠ U ∧ x ≠ BK
  np : m.I ≠ p ∧ BK ≠ p
  nb : m.I ≠ BK ∧ l ≠ BK
section
variable {a : Ad} {H H' : Hp} {S U BK p l : Addr} {m : SM} {uk : List (Key × V)} {bs : List Blk} {ims : List (Option Addr)}
theorem R30.there (r : R30 a H S U BK p l m uk bs ims) {x : Addr} (h : Ro S U BK p l m x) : ∃ o, H x = some o := by
  obtain ⟨_, _, _, _, h1, h2, _⟩ := r.P
  cases h with
  | st _ h => exact r.st.there h
  | i => exact ⟨_, r.im⟩
  | u => exact ⟨_, r.us⟩
  | bk => exact ⟨_, r.bk⟩
  | p => exact ⟨_, h1⟩
  | l => exact ⟨_, h2⟩
theorem R30.off (r : R30 a H S U BK p l m uk bs ims) {x : Addr} (n : H x = none) : ¬ Ro S U BK p l m x := fun h => by
  obtain ⟨o, e⟩ := r.there h
  rw [n] at e
  cases e
theorem R30.keep (r : R30 a H S U BK p l m uk bs ims) (P' : Pot H' p l) (k : ∀ b o, H b = some o → Ro S U BK p l m b → b ≠ p → H' b = some o) : R30 a H' S U BK p l m uk bs ims := by
  obtain ⟨i, acc, seed, hp⟩ := r.P.list
  exact ⟨r.st.keep fun b o e h => k b o e (.st _ h) (r.nS b h).1, P', k _ _ r.im .i r.np.1, k _ _ r.us .u (ne_of r.us hp fun z => nomatch z), k _ _ r.bk .bk r.np.2, r.nS, r.np, r.nb⟩
theorem R30.same (r : R30 a H S U BK p l m uk bs ims) (s : Same H H') : R30 a H' S U BK p l m uk bs ims := r.keep (r.P.same s) fun b o e _ _ => s b o e
theorem R30.draw (r : R30 a H S U BK p l m uk bs ims) (P' : Pot H' p l) (o : But p H H') : R30 a H' S U BK p l m uk bs ims := r.keep P' fun b u e _ n => o b u e n
theorem R30.nR (r : R30 a H S U BK p l m uk bs ims) {x : Addr} (h : x = p ∨ x = l ∨ x = m.I ∨ x = U ∨ x = BK) : ¬ StR S m x := fun s => by
  obtain ⟨h1, h2, h3, h4, h5⟩ := r.nS x s
  rcases h with h | h | h | h | h
  · exact h1 h
  · exact h2 h
  · exact h3 h
  · exact h4 h
  · exact h5 h
/-- the store is another one now, with the same images -/
theorem R30.store (r : R30 a H S U BK p l m uk bs ims) {m' : SM} (st : Stor a H' S m') (eI : m'.I = m.I) (fr : ∀ x o, H x = some o → ¬ StR S m x → H' x = some o) (up : ∀ x, StR S m' x → StR S m x ∨ H x = none) : R30 a H' S U BK p l m' uk bs ims := by
  obtain ⟨ns, i, acc, seed, h1, h2, h3⟩ := r.P
  have kp := fun x o e h => fr x o e (r.nR (x := x) h)
  have nx : ∀ x, StR S m' x → ∀ y o, H y = some o → (y = p ∨ y = l ∨ y = m.I ∨ y = U ∨ y = BK) → x ≠ y := fun x hx y o e h z => by
    rcases up x hx with u | u
    · rw [z] at u
      exact r.nR h u
    · rw [z, e] at u
      cases u
  refine ⟨st, ⟨ns, i, acc, seed, kp _ _ h1 (by simp), kp _ _ h2 (by simp), h3⟩, ?_, kp _ _ r.us (by simp), kp _ _ r.bk (by simp), fun x hx => ?_, ?_, ?_⟩
  · rw [eI]
    exact kp _ _ r.im (by simp)
  · rw [eI]
    exact ⟨nx x hx _ _ h1 (by simp), nx x hx _ _ h2 (by simp), nx x hx _ _ r.im (by simp), nx x hx _ _ r.us (by simp), nx x hx _ _ r.bk (by simp)⟩
  · rw [eI]; exact r.np
  · rw [eI]; exact r.nb
/-- other counts -/
theorem R30.count (r : R30 a H S U BK p l m uk bs ims) (uk' : List (Key × V)) : R30 a (L2.upd H U (.dK uk')) S U BK p l m uk' bs ims := by
  obtain ⟨i, acc, seed, hp⟩ := r.P.list
  obtain ⟨_, _, _, _, _, hl, _⟩ := r.P
  have k : ∀ x o, H x = some o → (∀ kv, o ≠ .dK kv) → L2.upd H U (.dK uk') x = some o := fun x o e n => by
    rw [upd_ne (ne_of e r.us (n _))]
    exact e
  exact ⟨r.st.put (r.nR (by simp)), r.P.only Only.upd (ne_of hp r.us fun z => nomatch z) (ne_of hl r.us fun z => nomatch z), k _ _ r.im (fun _ z => nomatch z), upd_same, k _ _ r.bk (fun _ z => nomatch z), r.nS, r.np, r.nb⟩
/-- a new table -/
theorem R30.table (r : R30 a H S U BK p l m uk bs ims) {U' : Addr} (n : ∀ x, StR S m x → x ≠ U') {uk' : List (Key × V)} (h : H U' = some (.dK uk')) : R30 a H S U' BK p l m uk' bs ims :=
  ⟨r.st, r.P, r.im, h, r.bk, fun x hx => let ⟨h1, h2, h3, _, h5⟩ := r.nS x hx; ⟨h1, h2, h3, n x hx, h5⟩, r.np, r.nb⟩
/-- a new list of blocks -/
theorem R30.blocks (r : R30 a H S U BK p l m uk bs ims) {BK' : Addr} (n : ¬ Ro S U BK p l m BK') {bs' : List Blk} (h : H BK' = some (.lst (bs'.map fun b => V.ref b.T))) : R30 a H S U BK' p l m uk bs' ims :=
  ⟨r.st, r.P, r.im, r.us, h, fun x hx => let ⟨h1, h2, h3, h4, _⟩ := r.nS x hx; ⟨h1, h2, h3, h4, fun z => n (by rw [← z]; exact .st _ hx)⟩, ⟨r.np.1, fun z => n (by rw [z]; exact .p)⟩, ⟨fun z => n (by rw [← z]; exact .i), fun z => n (by rw [← z]; exact .l)⟩⟩
/-- one more block in the law's list -/
theorem R30.more (r : R30 a H S U BK p l m uk bs ims) (b : Blk) : R30 a (L2.upd H BK (.lst ((bs.map fun e => V.ref e.T) ++ [.ref b.T]))) S U BK p l m uk (bs ++ [b]) ims := by
  have kp : ∀ x o, H x = some o → x ≠ BK → L2.upd H BK (.lst ((bs.map fun e => V.ref e.T) ++ [.ref b.T])) x = some o := fun x o e n => by
    rw [upd_ne n]
    exact e
  exact ⟨r.st.put (r.nR (by simp)), r.P.only Only.upd r.np.2.symm r.nb.2, kp _ _ r.im r.nb.1, kp _ _ r.us (ne_of r.us r.bk fun z => nomatch z), by rw [upd_same, List.map_append]; rfl, r.nS, r.np, r.nb⟩
end
structure M30 (m : SM) (us : List Int) (w : Nat) (I : Addr) (i : Nat) : Prop where
  data : m.data = 1
  par : m.par = w - 1
  rows : m.rows = 64
  ep : m.ep = 1
  I : m.I = I
  made : m.made ≤ i
  bl : m.bl.length ≤ i
  ws : ∀ b ∈ m.bl, b.ws.length = 3 ∧ b.L.length = w
  us : us.Perm m.ms
theorem M30.le {m : SM} {us : List Int} {w : Nat} {I : Addr} {i : Nat} (h : M30 m us w I i) : M30 m us w I (i + 1) :=
  ⟨h.data, h.par, h.rows, h.ep, h.I, Nat.le_succ_of_le h.made, Nat.le_succ_of_le h.bl, h.ws, h.us⟩
theorem M30.cm {m m' : SM} {us us' : List Int} {w : Nat} {I : Addr} {i : Nat} (h : M30 m us w I i) (c : Cm m m') (eb : m'.bl = m.bl) (p : us'.Perm m'.ms) : M30 m' us' w I (i + 1) :=
  ⟨by rw [c.data, h.data], by rw [c.par, h.par], by rw [c.rows, h.rows], by rw [c.ep, h.ep], by rw [c.I, h.I], by rw [c.made]; exact Nat.le_succ_of_le h.made, by rw [eb]; exact Nat.le_succ_of_le h.bl, by rw [eb]; exact h.ws, p⟩
theorem used_same {a : Ad} {H H' : Hp} {S S' : Addr} {m m' : SM} {ψ ψ' : Int → Int → Int} (h : StorP a H S m ψ) (h' : StorP a H' S' m' ψ') (e : plcs m'.bl = plcs m.bl) (d : Int) : usedM m' d = usedM m d := by
  rw [h.used_plc, h'.used_plc, e]
theorem StorP.used_none {a : Ad} {H : Hp} {S : Addr} {m : SM} {ψ : Int → Int → Int} (h : StorP a H S m ψ) {d : Int} (n : d ∉ m.ms) : usedM m d = 0 := by
  rw [h.used_plc]
  unfold plcD
  rw [List.length_eq_zero_iff, List.filter_eq_nil_iff]
  intro q mq z
  obtain ⟨b, mb, e, me, rfl⟩ := mem_plcs.mp mq
  exact n (by rw [← of_decide_eq_true z]; exact (h.row b mb e me).1)
theorem paired_cnt {K : PySem.W.Frag} {H : Hp} {f : Int → Nat} : ∀ {L : List (Addr × Int)}, (∀ e ∈ L, H e.1 = some (.tup [.int e.2, .int (f e.2 : Nat)])) → Paired (fun p (kv : Key × V) => SqT K H p [kV kv.1, kv.2]) (L.map (·.1)) (cntK f (L.map (·.2)))
  | [], _ => .nil
  | e :: L, h => .cons (SqT.of (h e (by simp))) (paired_cnt fun x m => h x (List.mem_cons_of_mem _ m))
theorem blk_item {bs : List Blk} {i : Nat} {y : V} (h : (bs.map fun b => V.ref b.T)[i]? = some y) : ∃ b, bs[i]? = some b ∧ y = V.ref b.T := by
  rw [List.getElem?_map] at h
  cases z : bs[i]? with
  | none => rw [z] at h; cases h
  | some b => rw [z] at h; exact ⟨b, rfl, (Option.some.inj h).symm⟩
theorem plc_item {L : List (Addr × Int × Int)} {i : Nat} {y : V} (h : (L.map fun q => V.ref q.1)[i]? = some y) : ∃ q, L[i]? = some q ∧ y = V.ref q.1 := by
  rw [List.getElem?_map] at h
  cases z : L[i]? with
  | none => rw [z] at h; cases h
  | some b => rw [z] at h; exact ⟨b, rfl, (Option.some.inj h).symm⟩
theorem plcD_snoc (L : List (Int × Int)) (q : Int × Int) (d : Int) : plcD (L ++ [q]) d = plcD L d + if q.1 = d then 1 else 0 := by
  rw [plcD_app]
  congr 1
  unfold plcD
  by_cases c : q.1 = d
  · rw [if_pos c, List.filter_cons, if_pos (decide_eq_true c)]
    rfl
  · rw [if_neg c, List.filter_cons, if_neg (by rw [decide_eq_false c]; exact Bool.false_ne_true)]
    rfl
theorem R30.upd {a : Ad} {H : Hp} {S U BK p l : Addr} {m : SM} {uk : List (Key × V)} {bs : List Blk} {ims : List (Option Addr)} (r : R30 a H S U BK p l m uk bs ims) {x : Addr} {o : HO} (n : ¬ Ro S U BK p l m x) : R30 a (upd H x o) S U BK p l m uk bs ims := r.keep (r.P.only Only.upd (fun z => n (by rw [← z]; exact .p)) fun z => n (by rw [← z]; exact .l)) fun b u e h _ => by
  rw [upd_ne fun z => n (by rw [← z]; exact h)]
  exact e
theorem all_rep : ∀ n : Nat, (List.replicate n true).all id = true
  | 0 => rfl
  | n + 1 => by rw [List.replicate_succ, List.all_cons, all_rep n]; rfl
def clearB (b : Blk) : Blk := { b with mem := false }
theorem M30.put {m : SM} {us : List Int} {w : Nat} {I : Addr} {i : Nat} (h : M30 m us w I i) {b : Blk} (ew : b.ws.length = 3) (eL : b.L.length = w) : M30 (m.put b) us w I (i + 1) :=
  ⟨h.data, h.par, h.rows, h.ep, h.I, Nat.succ_le_succ h.made, by show (m.bl ++ [b]).length ≤ _; rw [List.length_append]; exact Nat.succ_le_succ h.bl, fun c mc => by
    rcases List.mem_append.mp mc with mc | mc
    · exact h.ws c mc
    · rw [List.mem_singleton.mp mc]; exact ⟨ew, eL⟩, h.us⟩
def sp_sector_at (K : PySem.W.Frag) (a : Ad) : Sp := fun vs _ _ _ => vs.length = 3 ∧ False
theorem sp_sector_at_len {K : PySem.W.Frag} {a : Ad} {vs : List V} {H : Hp} {Q : VK} {E : XK} (h : sp_sector_at K a vs H Q E) : vs.length = 3 := h.1
def sp_present_numbers (K : PySem.W.Frag) (a : Ad) : Sp := fun vs _ _ _ => vs.length = 2 ∧ False
theorem sp_present_numbers_len {K : PySem.W.Frag} {a : Ad} {vs : List V} {H : Hp} {Q : VK} {E : XK} (h : sp_present_numbers K a vs H Q E) : vs.length = 2 := h.1
def sp_recover (K : PySem.W.Frag) (a : Ad) : Sp := fun vs _ _ _ => vs.length = 2 ∧ False
theorem sp_recover_len {K : PySem.W.Frag} {a : Ad} {vs : List V} {H : Hp} {Q : VK} {E : XK} (h : sp_recover K a vs H Q E) : vs.length = 2 := h.1
def sp_unseal (K : PySem.W.Frag) (a : Ad) : Sp := fun vs _ _ _ => vs.length = 4 ∧ False
theorem sp_unseal_len {K : PySem.W.Frag} {a : Ad} {vs : List V} {H : Hp} {Q : VK} {E : XK} (h : sp_unseal K a vs H Q E) : vs.length = 4 := h.1
def sp_is_whole (K : PySem.W.Frag) (a : Ad) : Sp := fun vs _ _ _ => vs.length = 1 ∧ False
theorem sp_is_whole_len {K : PySem.W.Frag} {a : Ad} {vs : List V} {H : Hp} {Q : VK} {E : XK} (h : sp_is_whole K a vs H Q E) : vs.length = 1 := h.1
def sp_good_piece (K : PySem.W.Frag) (a : Ad) : Sp := fun vs _ _ _ => vs.length = 4 ∧ False
theorem sp_good_piece_len {K : PySem.W.Frag} {a : Ad} {vs : List V} {H : Hp} {Q : VK} {E : XK} (h : sp_good_piece K a vs H Q E) : vs.length = 4 := h.1
def sp_read_stripe (K : PySem.W.Frag) (a : Ad) : Sp := fun vs _ _ _ => vs.length = 5 ∧ False
theorem sp_read_stripe_len {K : PySem.W.Frag} {a : Ad} {vs : List V} {H : Hp} {Q : VK} {E : XK} (h : sp_read_stripe K a vs H Q E) : vs.length = 5 := h.1
def sp_Store_get (K : PySem.W.Frag) (a : Ad) : Sp := fun vs _ _ _ => vs.length = 2 ∧ False
theorem sp_Store_get_len {K : PySem.W.Frag} {a : Ad} {vs : List V} {H : Hp} {Q : VK} {E : XK} (h : sp_Store_get K a vs H Q E) : vs.length = 2 := h.1
section
variable {P : Program} {w : World} {K : PySem.W.Frag} {mg : Str → Option Value} {base : Heap} {a : Ad}
theorem sc_is_present : FnScope ["images", "disk"] ["images", "disk"] (defScope s_is_present) := ⟨rfl, rfl, rfl, by decide +kernel, rfl, by decide +kernel, by decide +kernel⟩
theorem ok_is_present (T : Txt w K mg a) : FnOk P w K mg base CX0 1 a.f_is_present a.d_is_present ["images", "disk"] (sp_is_present K a) := by
  refine T.F_is_present.ok sc_is_present (fun vs H Q E h => ?len) (fun cdv A outer s H vs Q E hr h => ?body)
  case len =>
    exact sp_is_present_len h
  case body =>
    obtain ⟨I, ims, d, rfl, hI, hl, k⟩ := h
    refine ⟨_, (pss_one (ps_ret (pe_and (pe_chain op_le op_lt pe_int (pv 1) (pe_callB call_len_seq (by rfl) T.n_len PySem.boot_len (pa_cons (pv 0) pa_nil))) (pe_one (pe_cmpR op_notN (pe_ix ix_list (pv 0) (pv 1) (fun _ _ => rfl)) pe_non (nomark _)))))), ?_⟩
    refine ⟨_, rfl, _, _, rfl, rfl, _, rfl, ite2 (fun _ => ⟨_, rfl, I, _, rfl, .inl hI, _, _, rfl, rfl, _, rfl, ite2 (fun b => ?_) (fun b => ?_)⟩) (fun a => absurd (decide_eq_true (show (0 : Int) ≤ (d : Int) by omega)) a)⟩
    · have b := of_decide_eq_true b
      rw [List.length_map] at b
      have hd : d < ims.length := by omega
      have hg : ims[d]? = some ims[d] := List.getElem?_eq_getElem hd
      refine ⟨_, rfl, _, rfl, I, _, _, _, rfl, rfl, hI, at_of (j := d) rfl (imgs_get hg), ?_⟩
      have e : presentM ims d = ims[d].isSome := by unfold presentM; rw [getD_item hg]
      rw [e] at k
      cases q : ims[d] with
      | none => rw [q] at k; exact ⟨rfl, k⟩
      | some x => rw [q] at k; exact ⟨rfl, k⟩
    · have e : presentM ims d = false := by
        unfold presentM
        rw [List.getD_eq_getElem?_getD, List.getElem?_eq_none (by
          have : ¬ (d : Int) < ((ims.map refI).length : Int) := fun z => b (decide_eq_true z)
          rw [List.length_map] at this
          omega)]
        rfl
      rw [e] at k
      exact k
theorem sc_inverse : FnScope ["a", "number", "next_number", "factor", "next_factor", "quotient"] ["a"] (defScope s_inverse) := ⟨rfl, rfl, rfl, by decide +kernel, rfl, by decide +kernel, by decide +kernel⟩
theorem ok_inverse (T : Txt w K mg a) : FnOk P w K mg base (L2.CX P w) 1 a.f_inverse a.d_inverse ["a"] (sp_inverse K a) := by
  refine T.F_inverse.okX sc_inverse (fun vs H Q E h => ?len) (fun cdv A outer s H vs Q E hr h => ?body)
  case len =>
    exact sp_inverse_len h
  case body =>
    obtain ⟨x, rfl, kE, kQ⟩ := h
    refine ⟨_, (pss_cons (ps_par (i := 1) (j := 2) (by rfl) sc_inverse.nd rfl rfl (by decide) rfl rfl (pa_cons (pe_const T.g_PRIME) (pa_cons (pe_op op_mod (pv 0) (pe_const T.g_PRIME)) pa_nil)) (by rfl))
      (pss_cons (ps_asg (pe_tup (pa_cons pe_int (pa_cons pe_int pa_nil))) (pg_tup rfl (pgs_cons (pg_name (i := 3) sc_inverse.nd rfl (Or.inl rfl)) (pgs_cons (pg_name (i := 4) sc_inverse.nd rfl (Or.inl rfl)) pgs_nil))))
      (pss_cons (ps_if (pt_cmpR op_eq (pv 2) pe_int (nomark _))
      (pss_one (ps_raise rfl (takes_of rfl rfl rfl rfl) (pmk_own PySem.F.excBase_ValueError T.x_InvalidArgument T.g_InvalidArgument T.k_InvalidArgument (raises_own T.b_InvalidArgument T.t_InvalidArgument) (by exact rfl))))
      pss_nil)
      (pss_cons (ps_while (passes_of rfl) (pt_cmpR op_ne (pv 2) pe_int (nomark _))
      (pss_cons (ps_set (i := 5) sc_inverse.nd rfl (Or.inl rfl) (pe_op op_fdiv (pv 1) (pv 2)))
      (pss_cons (ps_par (i := 1) (j := 2) (by rfl) sc_inverse.nd rfl rfl (by decide) rfl rfl (pa_cons (pv 2) (pa_cons (pe_op op_sub (pv 1) (pe_op op_mul (pv 5) (pv 2))) pa_nil)) (by rfl))
      (pss_one (ps_par (i := 3) (j := 4) (by rfl) sc_inverse.nd rfl rfl (by decide) rfl rfl (pa_cons (pv 4) (pa_cons (pe_op op_sub (pv 3) (pe_op op_mul (pv 5) (pv 4))) pa_nil)) (by rfl))))))
      (pss_one (ps_ret (pe_op op_mod (pv 3) (pe_const T.g_PRIME)))))))), ?_⟩
    have p1 := Int.emod_nonneg x (show (65521 : Int) ≠ 0 by decide)
    have p2 := Int.emod_lt_of_pos x (show (0 : Int) < 65521 by decide)
    refine ⟨_, rfl, _, _, rfl, rfl, (by show (0 : Int) < 65521; decide), _, _, rfl, (by show 2 ≤ sizeLine; decide), fun t ht => ?_⟩
    have sm : Same H (upd H t (.tup [V.int 0, V.int 1])) := fun b o z => by rw [upd_ne (ne_of_none z ht)]; exact z
    refine ⟨t, _, rfl, SqT.of upd_same, rfl, _, _, rfl, _, _, rfl, rfl, ?_⟩
    refine ⟨_, rfl, rfl, _, rfl, ?_⟩
    refine ite2 (fun e => ?_) (fun e => ?_)
    · have e0 : x % 65521 = 0 := V.int.inj (of_decide_eq_true e)
      exact kE e0 _ sm
    · have e0 : x % 65521 ≠ 0 := fun z => e (decide_eq_true (congrArg V.int z))
      refine ⟨fun m σ H' => ∃ (n r f g : Int) (u : Option V), σ = [some (.int x), some (.int n), some (.int r), some (.int f), some (.int g), u] ∧ Same H H' ∧ m = r.toNat ∧ 0 ≤ r ∧ r < n ∧ n ≤ 65521 ∧ (x * f - n) % 65521 = 0 ∧ (x * g - r) % 65521 = 0 ∧ Int.gcd n r = 1,
        ⟨_, _, _, _, _, _, rfl, sm, rfl, p1, p2, Int.le_refl _, by omega, by omega, gcd_q x e0⟩, ?_⟩
      rintro m σ H' ⟨n, r, f, g, u, rfl, sm', rfl, r0, rn, nq, h1, h2, hg⟩
      refine ⟨_, rfl, rfl, _, rfl, ?_⟩
      refine ite2 (fun er => ?_) (fun er => ?_)
      · have r1 : r ≠ 0 := fun z => by subst z; simp at er
        have rp : 0 < r := by omega
        have d0 : 0 ≤ n / r := Int.ediv_nonneg (by omega) r0
        have d1 : n / r ≤ 65521 := by
          have := Int.ediv_le_self r (show 0 ≤ n by omega)
          omega
        have rr : n - n / r * r = n % r := by
          have := Int.mul_ediv_add_emod n r
          rw [Int.mul_comm] at this
          omega
        have q1 := Int.emod_nonneg n r1
        have q2 := Int.emod_lt_of_pos n rp
        refine ⟨fun σ' H'' => ∃ m', m' < r.toNat ∧ _, fun _ _ z => z, ?_⟩
        refine ⟨_, rfl, _, rfl, _, _, rfl, rfl, ⟨rp, by omega⟩, ?_⟩
        refine ⟨_, rfl, _, rfl, _, rfl, _, rfl, _, _, rfl, rfl, .inl ⟨by omega, by omega⟩, _, _, rfl, rfl, _, _, rfl, ?_⟩
        refine ⟨_, rfl, _, rfl, _, rfl, _, rfl, _, _, rfl, rfl, .inl ⟨by omega, by omega⟩, _, _, rfl, rfl, _, _, rfl, ?_⟩
        exact ⟨(n - n / r * r).toNat, by omega, r, n - n / r * r, g, f - n / r * g, _, rfl, sm', rfl, by omega, by omega, by omega, h2, euclid_turn h1 h2, gcd_turn hg⟩
      · have r1 : r = 0 := by
          have := Classical.not_not.mp (fun z => er (by rw [decide_eq_false z]; rfl))
          exact V.int.inj this
        subst r1
        have n1 : n = 1 := by
          rw [Int.gcd_zero_right] at hg
          omega
        subst n1
        have z := invP_eq (euclid_end h1)
        refine ⟨_, rfl, _, _, rfl, rfl, (by show (0 : Int) < 65521; decide), ?_⟩
        show Q (.int (f % 65521)) H'
        rw [← z]
        exact kQ e0 _ sm'
theorem sc_check_lengths : FnScope ["pieces", "piece"] ["pieces"] (defScope s_check_lengths) := ⟨rfl, rfl, rfl, by decide +kernel, rfl, by decide +kernel, by decide +kernel⟩
theorem ok_check_lengths (T : Txt w K mg a) : FnOk P w K mg base (L2.CX P w) 1 a.f_check_lengths a.d_check_lengths ["pieces"] (sp_check_lengths K a) := by
  refine T.F_check_lengths.okX sc_check_lengths (fun vs H Q E h => ?len) (fun cdv A outer s H vs Q E hr h => ?body)
  case len =>
    exact sp_check_lengths_len h
  case body =>
    obtain ⟨R, F, rfl, hR, kE, kQ⟩ := h
    refine ⟨_, (pss_one (ps_for (passes_of rfl) rfl (pi_list (pv 0)) (pg_name (i := 1) sc_check_lengths.nd rfl (Or.inl rfl))
      (pss_one (ps_if (pt_cmpR op_ne (pe_callB call_len_seq (by rfl) T.n_len PySem.boot_len (pa_cons (pv 1) pa_nil)) (pe_callB call_len_seq (by rfl) T.n_len PySem.boot_len (pa_cons (pe_ix ix_list (pv 0) pe_int (fun _ _ => rfl)) pa_nil)) (nomark _))
      (pss_one (ps_raise rfl (takes_of rfl rfl rfl rfl) (pmk_own PySem.F.excBase_ValueError T.x_InvalidArgument T.g_InvalidArgument T.k_InvalidArgument (raises_own T.b_InvalidArgument T.t_InvalidArgument) (by exact rfl))))
      pss_nil)))), ?_⟩
    refine ⟨_, rfl, R, rfl, ⟨_, hR.1⟩, for_list (K := K) (a := R) (xs := refs F) (fun i σ H' => ∃ v : Option V, σ = [some (.ref R), v] ∧ H' = H ∧ ∀ (j : Nat) (e : Addr × List Int), j < i → F[j]? = some e → e.2.length = ((snds F).getD 0 []).length)
      ⟨none, rfl, rfl, fun j e h => absurd h (by omega)⟩ (fun i σ H' _ ⟨_, _, e, _⟩ => by rw [e]; exact hR.1) ?_ ?_⟩
    · rintro i y σ H' hi ⟨v, rfl, rfl, hq⟩
      obtain ⟨e, he, rfl⟩ := refs_item hi
      have em := List.mem_of_getElem? he
      have lt0 : 0 < F.length := by have := item_lt he; omega
      have h0 : F[0]? = some F[0] := List.getElem?_eq_getElem lt0
      have m0 := List.mem_of_getElem? h0
      have g0 : ((snds F).getD 0 []) = F[0].2 := snds_get h0
      refine ⟨_, rfl, e.1, _, rfl, .inl (hR.2 e em), _, rfl, R, _, _, _, rfl, rfl, hR.1, at_of (j := 0) rfl (refs_get h0), F[0].1, _, rfl, .inl (hR.2 _ m0), rfl, _, rfl, ?_⟩
      rw [List.length_map, List.length_map]
      refine ite2 (fun q => ?_) (fun q => ?_)
      · refine kE ⟨e.2, List.mem_map.mpr ⟨e, em, rfl⟩, fun q' => ?_⟩ _ (Same.refl _)
        rw [g0] at q'
        rw [q'] at q
        simp at q
      · refine ⟨some (V.ref e.1), rfl, rfl, fun j e' hj hj' => ?_⟩
        by_cases c : j = i
        · subst c
          rw [he] at hj'
          have := Option.some.inj hj'
          subst this
          rw [g0]
          refine Classical.byContradiction fun ne => q ?_
          rw [decide_eq_false (fun z' => ne (by have := V.int.inj z'; omega))]
          rfl
        · exact hq j e' (by omega) hj'
    · rintro σ H' ⟨v, rfl, rfl, hq⟩
      rw [refs_len] at hq
      refine kQ (fun ⟨r, m, ne⟩ => ne ?_) _ (Same.refl _)
      obtain ⟨e, me, rfl⟩ := List.mem_map.mp m
      obtain ⟨j, hj⟩ := List.mem_iff_getElem?.mp me
      exact hq j e (item_lt hj) hj
theorem sc_check_words : FnScope ["words", "weighted", "at", "word"] ["words"] (defScope s_check_words) := ⟨rfl, rfl, rfl, by decide +kernel, rfl, by decide +kernel, by decide +kernel⟩
theorem ok_check_words (T : Txt w K mg a) : FnOk P w K mg base CX0 1 a.f_check_words a.d_check_words ["words"] (sp_check_words K a) := by
  refine T.F_check_words.ok sc_check_words (fun vs H Q E h => ?len) (fun cdv A outer s H vs Q E hr h => ?body)
  case len =>
    exact sp_check_words_len h
  case body =>
    obtain ⟨l, ws, rfl, hS, hlen, k⟩ := h
    refine ⟨_, (pss_cons (ps_setLc (i := 1) (own := [("at", 2), ("word", 3)]) (g := (gTup K 2 (gCons (gName 2) (gCons (gName 3) gNil)))) (by rfl) sc_check_words.nd rfl rfl (sw_true rfl rfl rfl (by decide +kernel)) (pi_enumS (by rfl) T.n_enumerate (pa_cons (pv 0) pa_nil) (pk_cons pe_int pk_nil)) (blkOk_by (own := [("at", 2), ("word", 3)]) (N := ["words", "weighted", "at", "word"]) (sc := defScope s_check_words) (by decide +kernel))
      (fun _ _ _ _ _ => (pg_tup rfl (pgs_cons (pg_name (i := 2) sc_check_words.nd rfl (Or.inl rfl)) (pgs_cons (pg_name (i := 3) sc_check_words.nd rfl (Or.inl rfl)) pgs_nil)))) (fun _ _ _ _ _ => pts_nil) (fun _ _ _ _ _ => (pe_op op_mul (pv 2) (pv 3))))
      (pss_one (ps_ret (pe_tup (pa_cons (pe_op op_mod (pe_callB (cr_sum rfl) (by rfl) T.n_sum (by decide +kernel) (pa_cons (pv 0) pa_nil)) (pe_const T.g_PRIME)) (pa_cons (pe_op op_mod (pe_callB (cr_sum rfl) (by rfl) T.n_sum (by decide +kernel) (pa_cons (pv 1) pa_nil)) (pe_const T.g_PRIME)) pa_nil)))))), ?_⟩
    refine ⟨_, rfl, _, _, _, rfl, rfl, hS, by decide, by decide, fun D new => lc_it (walk_enumS (k := 1)) (fun i H' => Same H H' ∧ H' D = some (.lst (((wts ws).take i).map V.int))) ⟨Same.new new, upd_same⟩ (fun i H' _ q => q.1.seq hS) ?_ ?_⟩
    · rintro i y H1 H2 hi ⟨s1, hD⟩ ⟨t, u, v, rfl, ht, rfl, hu, hv⟩
      cases hu
      obtain ⟨c, hc, rfl⟩ := int_item hv
      have s2 : Same H1 (upd H1 t (.tup [V.int (1 + (i : Nat)), V.int c])) := Same.new ht
      rw [List.length_map] at hi
      refine ⟨t, _, rfl, SqT.of upd_same, rfl, _, _, rfl, _, _, rfl, rfl, ?_⟩
      refine ⟨rfl, _, rfl, _, rfl, _, _, rfl, rfl, .inl ⟨by omega, by omega⟩, _, s2 _ _ hD, small _ (by simp; omega), same_put (s1.trans s2) new, ?_⟩
      have g : (wts ws)[i]? = some ((1 + (i : Int)) * c) := by
        unfold wts
        rw [List.getElem?_map, List.getElem?_range hi]
        show some (_ * ws.getD i 0) = _
        rw [getD_item hc]
      rw [upd_same, take_snoc g, List.map_append]
      rfl
    rintro H1 ⟨s1, hD⟩
    rw [List.take_of_length_le (by simp [wts])] at hD
    refine ⟨_, rfl, l, ws, rfl, s1.seq hS, _, _, rfl, rfl, (by show (0 : Int) < 65521; decide), ?_⟩
    refine ⟨_, rfl, D, _, rfl, SqL.of hD, _, _, rfl, rfl, (by show (0 : Int) < 65521; decide), ?_⟩
    refine ⟨by show 2 ≤ sizeLine; decide, fun D2 n2 => k D2 _ (s1.trans (Same.new n2)) ?_ upd_same⟩
    exact Classical.byContradiction fun q => by
      cases q' : H D2 with
      | none => exact q q'
      | some o => rw [s1 _ _ q'] at n2; cases n2
theorem sc_is_place : FnScope ["kind", "disk", "row"] ["kind", "disk", "row"] (defScope s_is_place) := ⟨rfl, rfl, rfl, by decide +kernel, rfl, by decide +kernel, by decide +kernel⟩
theorem ok_is_place (T : Txt w K mg a) : FnOk P w K mg base CX0 1 a.f_is_place a.d_is_place ["kind", "disk", "row"] (sp_is_place K a) := by
  refine T.F_is_place.ok sc_is_place (fun vs H Q E h => ?len) (fun cdv A outer s H vs Q E hr h => ?body)
  case len =>
    exact sp_is_place_len h
  case body =>
    obtain ⟨k, d, r, rfl, h1, h2⟩ := h
    refine ⟨_, (pss_one (ps_ret (pe_and (pe_chain op_le op_le (pe_const T.g_LABEL) (pv 0) (pe_const T.g_PIECE)) (pe_and (pe_chain op_le op_lt pe_int (pv 1) (pe_const T.g_MAX_DISKS)) (pe_one (pe_chain op_le op_lt pe_int (pv 2) (pe_const T.g_MAX_ROWS))))))), ?_⟩
    refine ⟨_, rfl, _, _, rfl, rfl, _, rfl, ite2 (fun a1 => ⟨_, _, rfl, rfl, _, rfl, ite2 (fun a2 => ?_) (fun a2 => h2 fun z => a2 (decide_eq_true z.1.2))⟩) (fun a1 => ⟨_, rfl, iteF (h2 fun z => a1 (decide_eq_true z.1.1))⟩)⟩
    have a1 := of_decide_eq_true a1
    have a2 := of_decide_eq_true a2
    refine ⟨_, rfl, _, _, rfl, rfl, _, rfl, ite2 (fun b1 => ⟨_, _, rfl, rfl, _, rfl, ite2 (fun b2 => ?_) (fun b2 => h2 fun z => b2 (decide_eq_true z.2.1.2))⟩) (fun b1 => ⟨_, rfl, iteF (h2 fun z => b1 (decide_eq_true z.2.1.1))⟩)⟩
    have b1 := of_decide_eq_true b1
    have b2 := of_decide_eq_true b2
    refine ⟨_, rfl, _, _, rfl, rfl, _, rfl, ite2 (fun c1 => ⟨_, _, rfl, rfl, ?_⟩) (fun c1 => h2 fun z => c1 (decide_eq_true z.2.2.1))⟩
    have c1 := of_decide_eq_true c1
    show Q (.bl (decide (r < 4000))) H
    by_cases c2 : r < 4000
    · rw [decide_eq_true c2]
      exact h1 ⟨⟨a1, a2⟩, ⟨b1, b2⟩, ⟨c1, c2⟩⟩
    · rw [decide_eq_false c2]
      exact h2 fun z => c2 z.2.2.2
theorem sc_choose_disks : FnScope ["candidates", "width", "ranked", "disk", "present", "free", "_"] ["candidates", "width"] (defScope s_choose_disks) := ⟨rfl, rfl, rfl, by decide +kernel, rfl, by decide +kernel, by decide +kernel⟩
theorem ok_choose_disks (T : Txt w K mg a) : FnOk P w K mg base (L2.CX P w) 1 a.f_choose_disks a.d_choose_disks ["candidates", "width"] (sp_choose_disks K a) := by
  refine T.F_choose_disks.okX sc_choose_disks (fun vs H Q E h => ?len) (fun cdv A outer s H vs Q E hr h => ?body)
  case len =>
    exact sp_choose_disks_len h
  case body =>
    obtain ⟨C, L, w, rfl, hC, hl, hw, nd, kD, kS, kQ⟩ := h
    refine ⟨_, (pss_cons (ps_if (pt_cmpR op_lt (pe_callB call_len_seq (by rfl) T.n_len PySem.boot_len (pa_cons (pv 0) pa_nil)) (pv 1) (nomark _))
      (pss_one (ps_raise rfl (takes_of rfl rfl rfl rfl) (pmk_own PySem.F.excBase_ValueError T.x_NotEnoughDisks T.g_NotEnoughDisks T.k_NotEnoughDisks (raises_own T.b_NotEnoughDisks T.t_NotEnoughDisks) (by exact rfl))))
      pss_nil)
      (pss_cons (ps_set (i := 2) sc_choose_disks.nd rfl (Or.inl rfl) (pe_callB (cr_sortedD hr.units) (by rfl) T.n_sorted (by decide +kernel) (pa_cons (pe_lc (own := [("disk", 3), ("present", 4), ("free", 5)]) (g := (gTup K 3 (gCons (gName 3) (gCons (gName 4) (gCons (gName 5) gNil))))) (by rfl) sc_choose_disks.nd (pi_list (pv 0)) (blkOk_by (own := [("disk", 3), ("present", 4), ("free", 5)]) (N := ["candidates", "width", "ranked", "disk", "present", "free", "_"]) (sc := defScope s_choose_disks) (by decide +kernel))
      (fun _ _ _ _ _ => (pg_tup rfl (pgs_cons (pg_name (i := 3) sc_choose_disks.nd rfl (Or.inl rfl)) (pgs_cons (pg_name (i := 4) sc_choose_disks.nd rfl (Or.inl rfl)) (pgs_cons (pg_name (i := 5) sc_choose_disks.nd rfl (Or.inl rfl)) pgs_nil))))) (fun _ _ _ _ _ => (pts_one (pt_cmpR op_gt (pv 5) pe_int (nomark _)))) (fun _ _ _ _ _ => (pe_tup (pa_cons (pe_not (pv 4)) (pa_cons (pe_un un_neg (pv 5)) (pa_cons (pv 3) pa_nil)))))) pa_nil)))
      (pss_cons (ps_if (pt_cmpR op_lt (pe_callB call_len_seq (by rfl) T.n_len PySem.boot_len (pa_cons (pv 2) pa_nil)) (pv 1) (nomark _))
      (pss_one (ps_raise rfl (takes_of rfl rfl rfl rfl) (pmk_own PySem.F.excBase_ValueError T.x_NoSpace T.g_NoSpace T.k_NoSpace (raises_own T.b_NoSpace T.t_NoSpace) (by exact rfl))))
      pss_nil)
      (pss_one (ps_ret (pe_callB cr_sorted (by rfl) T.n_sorted (by decide +kernel) (pa_cons (pe_lc (own := [("_", 6), ("disk", 3)]) (g := (gTup K 3 (gCons (gName 6) (gCons (gName 6) (gCons (gName 3) gNil))))) (by rfl) sc_choose_disks.nd (pi_list (pe_slice sl_list (pv 2) po_none (po_some (pv 1)))) (blkOk_by (own := [("_", 6), ("disk", 3)]) (N := ["candidates", "width", "ranked", "disk", "present", "free", "_"]) (sc := defScope s_choose_disks) (by decide +kernel))
      (fun _ _ _ _ _ => (pg_tup rfl (pgs_cons (pg_name (i := 6) sc_choose_disks.nd rfl (Or.inl rfl)) (pgs_cons (pg_name (i := 6) sc_choose_disks.nd rfl (Or.inl rfl)) (pgs_cons (pg_name (i := 3) sc_choose_disks.nd rfl (Or.inl rfl)) pgs_nil))))) (fun _ _ _ _ _ => pts_nil) (fun _ _ _ _ _ => (pv 3))) pa_nil))))))), ?_⟩
    refine ⟨_, rfl, C, _, rfl, .inl hC.1, _, rfl, _, _, rfl, rfl, _, rfl, ite2 (fun b => kD (by have := of_decide_eq_true b; rw [List.length_map] at this; omega) _ (Same.refl _)) (fun b => ?_)⟩
    have nw : ¬ L.length < w := fun z => b (decide_eq_true (by rw [List.length_map]; omega))
    -- ranked = sorted([...])
    refine ⟨_, rfl, C, rfl, ⟨_, hC.1⟩, fun D nD => lc_list (K := K) (a := C) (xs := L.map cdV) (fun i H' => ∃ G : List (Addr × Cd), Same H H' ∧ H' D = some (.lst (G.map fun e => V.ref e.1)) ∧ G.map (·.2) = (L.take i).filter (fun e => decide (0 < e.f)) ∧ ∀ e ∈ G, H' e.1 = some (.tup [.bl (!e.2.b), .int (-e.2.f), .int e.2.d]))
      ⟨[], Same.new nD, upd_same, rfl, fun _ m => nomatch m⟩ (fun i H' _ ⟨_, s', _⟩ => s'.seq hC.1) ?_ ?_⟩
    · rintro i y H' hi ⟨G, s1, hD, eG, hG⟩
      obtain ⟨e, he, rfl⟩ := cd_item hi
      have me := List.mem_of_getElem? he
      refine ⟨e.t, _, rfl, SqT.of (s1 _ _ (hC.2 e me)), rfl, _, _, rfl, _, _, rfl, _, _, rfl, rfl, ?_⟩
      have fs := filter_snoc (fun e : Cd => decide (0 < e.f)) he
      have lG : G.length ≤ L.length := by
        have := congrArg List.length eG
        rw [List.length_map] at this
        rw [this]
        exact filter_len _ _ _
      refine ⟨rfl, _, rfl, _, _, rfl, rfl, _, rfl, ite2 (fun q => ?_) (fun q => ?_)⟩
      · have q := of_decide_eq_true q
        rw [decide_eq_true q] at fs
        refine ⟨_, rfl, _, rfl, _, rfl, _, rfl, _, rfl, (by show 3 ≤ sizeLine; decide), fun t nt => ?_⟩
        have st := Same.new (o := .tup [V.bl (!e.b), V.int (-e.f), V.int e.d]) nt
        have hD2 := st _ _ hD
        have hG2 : ∀ e' ∈ G, upd H' t (.tup [V.bl (!e.b), V.int (-e.f), V.int e.d]) e'.1 = some (.tup [.bl (!e'.2.b), .int (-e'.2.f), .int e'.2.d]) := fun e' m => st _ _ (hG e' m)
        have dt : upd H' t (.tup [V.bl (!e.b), V.int (-e.f), V.int e.d]) t = some (.tup [.bl (!e.b), .int (-e.f), .int e.d]) := upd_same
        have s2 := s1.trans st
        have ntD : t ≠ D := (ne_of_none hD nt).symm
        refine ⟨_, hD2, small _ (by rw [List.length_map]; omega), G ++ [(t, e)], same_put s2 nD, ?_, ?_, fun e' m => ?_⟩
        · rw [upd_same, List.map_append]
          rfl
        · rw [fs, List.map_append, eG]
          rfl
        · rcases List.mem_append.mp m with m | m
          · rw [upd_ne (ne_of (hG2 e' m) hD2 (by intro q; cases q))]
            exact hG2 e' m
          · have : e' = (t, e) := by simpa using m
            subst this
            rw [upd_ne ntD]
            exact dt
      · have q' : ¬ 0 < e.f := fun z => q (decide_eq_true z)
        rw [decide_eq_false q'] at fs
        refine ⟨G, s1, hD, ?_, hG⟩
        rw [fs, eG]
        simp
    rintro H1 ⟨G, s1, hD, eG, hG⟩
    rw [List.length_map, List.take_length] at eG
    replace eG : G.map (·.2) = usableM L := eG
    -- sorted
    have mU : ∀ e ∈ G, e.2 ∈ usableM L := fun e m => by rw [← eG]; exact List.mem_map.mpr ⟨e, m, rfl⟩
    have kG : ∀ e ∈ G, kH H1 (.ref e.1) = tripD e.2 := fun e m => kH_of (hG e m)
    have lG : G.length ≤ 20 := by
      have := congrArg List.length eG
      rw [List.length_map] at this
      have h2 : (usableM L).length ≤ L.length := List.length_filter_le _ _
      omega
    refine ⟨D, G.map fun e => V.ref e.1, kH H1, rfl, SqL.of hD, fun x m => ?_, fun x m y m' => ?_, .inl fun x m => ?_, fun x m => ?_, fun R nR => ?_⟩
    · obtain ⟨e, me, rfl⟩ := List.mem_map.mp m
      rw [kG e me]
      exact .tup (SqT.of (hG e me)) (.cons (.bl _) (.cons (.int _) (.cons (.int _) .nil)))
    · obtain ⟨x1, m1, rfl⟩ := List.mem_map.mp m
      obtain ⟨y1, m2, rfl⟩ := List.mem_map.mp m'
      obtain ⟨e, me, rfl⟩ := List.mem_map.mp m1
      obtain ⟨e', me', rfl⟩ := List.mem_map.mp m2
      rw [kG e me, kG e' me']
      exact trip_alike _ _
    · obtain ⟨y1, m1, rfl⟩ := List.mem_map.mp m
      obtain ⟨e, me, rfl⟩ := List.mem_map.mp m1
      rw [kG e me]
      exact ⟨_, _, rfl⟩
    · obtain ⟨e, me, rfl⟩ := List.mem_map.mp m
      rw [kG e me]
      simp [tripD, PyData.depth, PyData.depthAll]
    have eS : (G.map fun e => V.ref e.1).mergeSort (PySem.W.dataLe false (kH H1)) = (G.mergeSort fun x y => leM x.2 y.2).map fun e => V.ref e.1 := by
      refine (List.map_mergeSort fun x mx y my => ?_).symm
      rw [PySem.W.dataLe_eq]
      show leM x.2 y.2 = !PySem.W.dataLt (kH H1 (.ref y.1)) (kH H1 (.ref x.1))
      rw [kG x mx, kG y my, trip_lt]
      rfl
    rw [eS]
    have pS : (G.mergeSort fun x y => leM x.2 y.2).Perm G := List.mergeSort_perm _ _
    have oS : (G.mergeSort fun x y => leM x.2 y.2).Pairwise fun x y => leM x.2 y.2 = true := List.pairwise_mergeSort (fun a b c => leM_trans a.2 b.2 c.2) (fun a b => leM_total a.2 b.2) G
    generalize (G.mergeSort fun x y => leM x.2 y.2) = S at pS oS ⊢
    have lS : S.length = (usableM L).length := by rw [pS.length_eq, ← eG, List.length_map]
    have pS2 : (S.map (·.2)).Perm (usableM L) := by rw [← eG]; exact pS.map _
    have ndU : ((usableM L).map (·.d)).Nodup := List.Nodup.sublist (List.Sublist.map _ List.filter_sublist) nd
    have strict : (S.map (·.2)).Pairwise fun x y => beforeM x y = true := strict_of (List.pairwise_map.mpr oS) ((pS2.map _).nodup_iff.mpr ndU)
    have best := best_of (w := w) pS2 strict
    have sR := Same.new (o := .lst (S.map fun e => V.ref e.1)) nR
    have dR : upd H1 R (.lst (S.map fun e => V.ref e.1)) R = some (.lst (S.map fun e => V.ref e.1)) := upd_same
    have hS : ∀ e ∈ S, upd H1 R (.lst (S.map fun e => V.ref e.1)) e.1 = some (.tup [.bl (!e.2.b), .int (-e.2.f), .int e.2.d]) := fun e m => sR _ _ (hG e (pS.mem_iff.mp m))
    have s2 := s1.trans sR
    have nR0 := same_none s1 nR
    generalize upd H1 R (.lst (S.map fun e => V.ref e.1)) = H2 at dR hS s2 ⊢
    -- if len(ranked) < width
    refine ⟨_, rfl, R, _, rfl, .inl (SqL.of dR), _, rfl, _, _, rfl, rfl, _, rfl, ite2 (fun b => kS nw (by have := of_decide_eq_true b; rw [List.length_map] at this; omega) _ s2) (fun b => ?_)⟩
    have nu : ¬ (usableM L).length < w := fun z => b (decide_eq_true (by rw [List.length_map]; omega))
    -- sorted([disk for _, _, disk in ranked[:width]])
    refine ⟨_, rfl, _, rfl, _, rfl, R, _, rfl, SqL.of dR, fun T nT => ?_⟩
    rw [cut_take, ← List.map_take]
    have sT := Same.new (o := .lst ((S.take w).map fun e => V.ref e.1)) nT
    have dT : upd H2 T (.lst ((S.take w).map fun e => V.ref e.1)) T = some (.lst ((S.take w).map fun e => V.ref e.1)) := upd_same
    have hT : ∀ e ∈ S.take w, upd H2 T (.lst ((S.take w).map fun e => V.ref e.1)) e.1 = some (.tup [.bl (!e.2.b), .int (-e.2.f), .int e.2.d]) := fun e m => sT _ _ (hS e (List.mem_of_mem_take m))
    have s3 := s2.trans sT
    generalize upd H2 T (.lst ((S.take w).map fun e => V.ref e.1)) = H3 at dT hT s3 ⊢
    have lB : (S.take w).length ≤ 20 := by
      rw [List.length_take, lS, ← eG, List.length_map]
      omega
    rw [← List.map_take] at best
    generalize S.take w = B at dT hT best lB ⊢
    refine ⟨T, rfl, ⟨_, SqL.of dT⟩, fun N nN => lc_list (K := K) (a := T) (xs := B.map fun e => V.ref e.1) (fun i H' => Same H3 H' ∧ H' N = some (.lst (((B.take i).map fun e => e.2.d).map V.int))) ⟨Same.new nN, upd_same⟩ (fun i H' _ q => q.1.seq (SqL.of dT)) ?_ ?_⟩
    · rintro i y H' hi ⟨s4, hN⟩
      obtain ⟨e, he, rfl⟩ : ∃ e, B[i]? = some e ∧ y = V.ref e.1 := by
        rw [List.getElem?_map] at hi
        cases q : B[i]? with
        | none => rw [q] at hi; cases hi
        | some e => rw [q] at hi; exact ⟨e, rfl, (Option.some.inj hi).symm⟩
      have me := List.mem_of_getElem? he
      refine ⟨e.1, _, rfl, SqT.of (s4 _ _ (hT e me)), rfl, _, _, rfl, _, _, rfl, _, _, rfl, rfl, ?_⟩
      refine ⟨rfl, _, rfl, _, hN, small _ (by rw [List.length_map, List.length_map, List.length_take]; omega), same_put s4 nN, ?_⟩
      rw [upd_same, take_snoc he, List.map_append, List.map_append]
      rfl
    rintro H4 ⟨s4, hN⟩
    rw [List.take_of_length_le (by rw [List.length_map]; exact Nat.le_refl _)] at hN
    refine ⟨N, _, rfl, SqL.of hN, by rw [List.length_map]; omega, fun ns Z pm oz nZ => ?_⟩
    have s5 := (s3.trans s4).trans (Same.new (o := .lst (ns.map V.int)) nZ)
    rw [List.map_map] at best
    exact kQ nw nu Z ns _ s5 (same_none (s3.trans s4) nZ) upd_same (pm.trans best) oz
theorem sc_piece_size : FnScope ["length", "data"] ["length", "data"] (defScope s_piece_size) := ⟨rfl, rfl, rfl, by decide +kernel, rfl, by decide +kernel, by decide +kernel⟩
theorem ok_piece_size (T : Txt w K mg a) : FnOk P w K mg base CX0 1 a.f_piece_size a.d_piece_size ["length", "data"] (sp_piece_size K a) := by
  refine T.F_piece_size.ok sc_piece_size (fun vs H Q E h => ?len) (fun cdv A outer s H vs Q E hr h => ?body)
  case len =>
    exact sp_piece_size_len h
  case body =>
    obtain ⟨n, d, rfl, hd, hd2, k⟩ := h
    refine ⟨_, (pss_one (ps_ret (pe_op op_fdiv (pe_op op_sub (pe_op op_add (pv 0) (pv 1)) pe_int) (pv 1)))), ?_⟩
    refine ⟨_, rfl, _, rfl, _, _, rfl, rfl, _, _, rfl, rfl, _, rfl, _, _, rfl, rfl, ⟨by omega, by omega⟩, ?_⟩
    have e : ((n : Int) + (d : Int) - 1) / (d : Int) = ((sizeM n d : Nat) : Int) := by
      unfold sizeM
      rw [show (n : Int) + (d : Int) - 1 = ((n + d - 1 : Nat) : Int) by omega]
      rfl
    show Q (.int (((n : Int) + (d : Int) - 1) / (d : Int))) H
    rw [e]
    exact k
theorem sc_law_pot : FnScope ["script", "seed", "cell"] ["script"] (defScope s_law_pot) := ⟨rfl, rfl, rfl, by decide +kernel, rfl, by decide +kernel, by decide +kernel⟩
theorem ok_law_pot (T : Txt w K mg a) : FnOk P w K mg base CX0 1 a.f_law_pot a.d_law_pot ["script"] (sp_law_pot K a) := by
  refine T.F_law_pot.ok sc_law_pot (fun vs H Q E h => ?len) (fun cdv A outer s H vs Q E hr h => ?body)
  case len =>
    exact sp_law_pot_len h
  case body =>
    obtain ⟨s, ns, rfl, hS, hlen, k⟩ := h
    refine ⟨_, (pss_cons (ps_set (i := 1) sc_law_pot.nd rfl (Or.inl rfl) pe_int)
      (pss_cons (ps_for PassesOwn.never rfl (pi_list (pv 0)) (pg_name (i := 2) sc_law_pot.nd rfl (Or.inl rfl))
      (pss_one (ps_set (i := 1) sc_law_pot.nd rfl (Or.inl rfl) (pe_op op_mod (pe_callTy call_int1 (by rfl) T.n_int (by decide +kernel) (pa_cons (pe_op op_add (pe_op op_mul (pv 1) pe_int) (pv 2)) pa_nil)) pe_int))))
      (pss_one (ps_ret (pe_lst (pa_cons (pe_callTy call_list_of (by rfl) T.n_list (by decide +kernel) (pa_cons (pv 0) pa_nil)) (pa_cons pe_int (pa_cons pe_int (pa_cons (pv 1) pa_nil))))))))), ?_⟩
    refine ⟨_, rfl, s, rfl, ⟨_, hS⟩, for_list (K := K) (a := s) (xs := ns.map V.int) (fun i σ H' => ∃ (z : Int) (v : Option V), σ = [some (.ref s), some (.int z), v] ∧ 0 ≤ z ∧ z < 2147483647 ∧ H' = H)
      ⟨1, none, rfl, by decide, by decide, rfl⟩ (fun i σ H' _ ⟨_, _, _, _, _, e⟩ => by rw [e]; exact hS) ?_ ?_⟩
    · rintro i y σ H' hi ⟨z, v, rfl, z0, z1, rfl⟩
      obtain ⟨c, hc, rfl⟩ := int_item hi
      refine ⟨_, rfl, _, _, rfl, rfl, .inl ⟨by omega, by omega⟩, _, rfl, _, _, rfl, rfl, .inl ⟨_, rfl, _, _, rfl, rfl, (by show (0 : Int) < 2147483647; decide), ?_⟩⟩
      exact ⟨_, _, rfl, Int.emod_nonneg _ (by decide), Int.emod_lt_of_pos _ (by decide), rfl⟩
    · rintro σ H' ⟨z, v, rfl, z0, z1, rfl⟩
      refine ⟨_, rfl, s, _, rfl, .inl hS, fun l hl => ?_⟩
      refine ⟨_, rfl, (by show 4 ≤ sizeLine; decide), fun p hp => ?_⟩
      have npl : l ≠ p := fun e => by subst e; rw [upd_same] at hp; cases hp
      have hp0 : H' p = none := by rw [upd_ne npl.symm] at hp; exact hp
      refine k p l _ hp0 hl (fun b o e => ?_) ⟨ns, 0, 0, z, upd_same, by rw [upd_ne npl, upd_same], by decide, by decide, z0, z1⟩
      rw [upd_ne (ne_of_none e hp0), upd_ne (ne_of_none e hl)]
      exact e
theorem sc_law_next : FnScope ["pot", "limit", "cell", "found", "mixed"] ["pot", "limit"] (defScope s_law_next) := ⟨rfl, rfl, rfl, by decide +kernel, rfl, by decide +kernel, by decide +kernel⟩
theorem ok_law_next (T : Txt w K mg a) : FnOk P w K mg base CX0 1 a.f_law_next a.d_law_next ["pot", "limit"] (sp_law_next K a) := by
  refine T.F_law_next.ok sc_law_next (fun vs H Q E h => ?len) (fun cdv A outer s H vs Q E hr h => ?body)
  case len =>
    exact sp_law_next_len h
  case body =>
    obtain ⟨p, l, m, rfl, hP, m0, m1, k⟩ := h
    obtain ⟨ns, i, acc, seed, h1, h2, i0, acc0, s0, s1⟩ := id hP
    have nlp := hP.ne
    have mod0 : ∀ x : Int, 0 ≤ x % m := fun x => Int.emod_nonneg _ (by omega)
    have mod1 : ∀ x : Int, x % m < m := fun x => Int.emod_lt_of_pos _ m0
    have mW : m.natAbs < 2 ^ 41 := by
      have : m.natAbs < 2199023255552 := by omega
      exact this
    refine ⟨_, (Evl.pss_cut (ps_if (PW.pt (pw_and (pt_cmpR op_eq (pe_ix ix_list (pv 0) pe_int (fun _ _ => rfl)) pe_int (nomark _)) (pw_and1 (pt_cmpR op_lt (pe_ix ix_list (pv 0) pe_int (fun _ _ => rfl)) (pe_callB call_len_seq (by rfl) T.n_len PySem.boot_len (pa_cons (pe_ix ix_list (pv 0) pe_int (fun _ _ => rfl)) pa_nil)) (nomark _)))))
      (pss_cons (ps_set (i := 2) sc_law_next.nd rfl (Or.inl rfl) (pe_callB call_abs (by rfl) T.n_abs (by decide +kernel) (pa_cons (pe_callTy call_int1 (by rfl) T.n_int (by decide +kernel) (pa_cons (pe_ix ix_list (pe_ix ix_list (pv 0) pe_int (fun _ _ => rfl)) (pe_ix ix_list (pv 0) pe_int (fun _ _ => rfl)) (fun _ _ => rfl)) pa_nil)) pa_nil)))
      (pss_cons (ps_asg (pe_op op_add (pe_ix ix_list (pv 0) pe_int (fun _ _ => rfl)) pe_int) (pg_sub (pv 0) pe_int set_list))
      (pss_cons (ps_if (pt_cmpR op_lt (pv 2) (pe_op op_pow pe_int pe_int) (nomark _))
      (pss_one (ps_ret (pe_op op_mod (pe_callTy call_int1 (by rfl) T.n_int (by decide +kernel) (pa_cons (pv 2) pa_nil)) (pv 1))))
      pss_nil)
      (pss_one (ps_asg (pv 2) (pg_sub (pv 0) pe_int set_list))))))
      pss_nil)
      (pss_cons (ps_if (pt_cmpR op_gt (pe_ix ix_list (pv 0) pe_int (fun _ _ => rfl)) pe_int (nomark _))
      (pss_cons (ps_set (i := 3) sc_law_next.nd rfl (Or.inl rfl) (pe_op op_mod (pe_callTy call_int1 (by rfl) T.n_int (by decide +kernel) (pa_cons (pe_ix ix_list (pv 0) pe_int (fun _ _ => rfl)) pa_nil)) (pv 1)))
      (pss_cons (ps_asg (pe_op op_fdivW (pe_ix ix_list (pv 0) pe_int (fun _ _ => rfl)) (pv 1)) (pg_sub (pv 0) pe_int set_list))
      (pss_one (ps_ret (pv 3)))))
      pss_nil)
      (pss_cons (ps_asg (pe_op op_mod (pe_callTy call_int1 (by rfl) T.n_int (by decide +kernel) (pa_cons (pe_op op_add (pe_op op_mul (pe_ix ix_list (pv 0) pe_int (fun _ _ => rfl)) pe_int) pe_int) pa_nil)) pe_int) (pg_sub (pv 0) pe_int set_list))
      (pss_cons (ps_set (i := 4) sc_law_next.nd rfl (Or.inl rfl) (pe_op op_mod (pe_callTy call_int1 (by rfl) T.n_int (by decide +kernel) (pa_cons (pe_op op_add (pe_op op_mul (pe_ix ix_list (pv 0) pe_int (fun _ _ => rfl)) pe_int) (pe_op op_fdiv (pe_ix ix_list (pv 0) pe_int (fun _ _ => rfl)) pe_int)) pa_nil)) pe_int))
      (pss_one (ps_ret (pe_op op_mod (pe_callTy call_int1 (by rfl) T.n_int (by decide +kernel) (pa_cons (pv 4) pa_nil)) (pv 1)))))))), ?_⟩
    refine ⟨fun σ H' => ∃ (u : Option V) (i' acc' : Int), σ = [some (.ref p), some (.int m), u, none, none] ∧ H' p = some (.lst [.ref l, .int i', .int acc', .int seed]) ∧ 0 ≤ i' ∧ 0 ≤ acc' ∧ Only p H H', ?_, ?_⟩
    · -- if pot[2] == 0 and pot[1] < len(pot[0])
      refine ⟨_, rfl, p, _, _, _, rfl, rfl, SqL.of h1, at_of (j := 2) rfl rfl, rfl, _, rfl, ?_⟩
      refine ite2 (fun e2 => ?_) (fun e2 => iteF ⟨none, i, acc, rfl, h1, i0, acc0, Only.refl⟩)
      refine ⟨_, rfl, p, _, _, _, rfl, rfl, SqL.of h1, at_of (j := 1) rfl rfl, _, rfl, p, _, _, _, rfl, rfl, SqL.of h1, at_of (j := 0) rfl rfl, l, _, rfl, .inl (SqL.of h2), _, _, rfl, rfl, _, rfl, ?_⟩
      refine ite2 (fun e3 => ?_) (fun e3 => ⟨none, i, acc, rfl, h1, i0, acc0, Only.refl⟩)
      have i1 : i < (ns.length : Int) := by
        have := of_decide_eq_true e3
        rw [List.length_map] at this
        exact this
      obtain ⟨j, rfl⟩ : ∃ j : Nat, i = (j : Int) := ⟨i.toNat, by omega⟩
      have hj : j < ns.length := by omega
      have hit : (ns.map V.int)[j]? = some (V.int ns[j]) := by rw [List.getElem?_map, List.getElem?_eq_getElem hj]; rfl
      -- cell = abs(int(pot[0][pot[1]])); pot[1] = pot[1] + 1
      refine ⟨_, rfl, p, _, _, _, rfl, rfl, SqL.of h1, at_of (j := 0) rfl rfl, _, rfl, p, _, _, _, rfl, rfl, SqL.of h1, at_of (j := 1) rfl rfl, l, _, _, _, rfl, rfl, SqL.of h2, at_of (j := j) rfl hit, .inl ⟨_, rfl, _, rfl, ?_⟩⟩
      have abs0 : 0 ≤ (if ns[j] < 0 then -ns[j] else ns[j]) := by split <;> omega
      generalize (if ns[j] < 0 then -ns[j] else ns[j]) = c at abs0 ⊢
      refine ⟨_, rfl, p, _, _, _, rfl, rfl, SqL.of h1, at_of (j := 1) rfl rfl, _, _, rfl, rfl, _, rfl, p, _, _, 1, rfl, rfl, h1, rfl, ?_⟩
      have g1 : upd H p (.lst (List.set [V.ref l, V.int (j : Int), V.int acc, V.int seed] 1 (V.int ((j : Int) + 1)))) p = some (.lst [.ref l, .int ((j : Int) + 1), .int acc, .int seed]) := upd_same
      -- if cell < 10 ** 18: return int(cell) % limit
      refine ⟨_, rfl, _, _, rfl, rfl, ⟨by decide, by decide, by decide⟩, _, _, rfl, rfl, _, rfl, ?_⟩
      refine ite2 (fun e4 => ?_) (fun e4 => ?_)
      · refine ⟨_, rfl, .inl ⟨_, rfl, _, rfl, _, _, rfl, rfl, m0, ?_⟩⟩
        exact k _ _ (mod0 _) (mod1 _) ⟨ns, _, _, _, g1, by rw [upd_ne nlp]; exact h2, by omega, acc0, s0, s1⟩ Only.upd
      · -- pot[2] = cell
        refine ⟨_, rfl, _, rfl, p, _, _, 2, rfl, rfl, g1, rfl, ?_⟩
        exact ⟨_, (j : Int) + 1, c, rfl, upd_same, by omega, abs0, Only.upd.trans Only.upd⟩
    · rintro σ H' ⟨u, i', acc', rfl, g1, i0', acc0', oH⟩
      have g2 : H' l = some (.lst (ns.map V.int)) := by rw [oH _ nlp]; exact h2
      -- if pot[2] > 0
      refine ⟨_, rfl, p, _, _, _, rfl, rfl, SqL.of g1, at_of (j := 2) rfl rfl, _, _, rfl, rfl, _, rfl, ?_⟩
      refine ite2 (fun e2 => ?_) (fun e2 => ?_)
      · refine ⟨_, rfl, p, _, _, _, rfl, rfl, SqL.of g1, at_of (j := 2) rfl rfl, .inl ⟨_, rfl, _, rfl, _, _, rfl, rfl, m0, ?_⟩⟩
        refine ⟨_, rfl, p, _, _, _, rfl, rfl, SqL.of g1, at_of (j := 2) rfl rfl, _, rfl, _, _, rfl, rfl, wide_div m0 mW (by decide) (by decide), _, rfl, p, _, _, 2, rfl, rfl, g1, rfl, ?_⟩
        refine ⟨_, rfl, ?_⟩
        exact k _ _ (mod0 _) (mod1 _) ⟨ns, i', acc' / m, seed, upd_same, by rw [upd_ne nlp]; exact g2, i0', Int.ediv_nonneg acc0' (by omega), s0, s1⟩ (oH.trans Only.upd)
      · -- pot[3] = int(pot[3] * 48271 + 12345) % 2147483647
        refine ⟨_, rfl, p, _, _, _, rfl, rfl, SqL.of g1, at_of (j := 3) rfl rfl, _, _, rfl, rfl, .inl ⟨by omega, by omega⟩, _, _, rfl, rfl, .inl ⟨_, rfl, _, _, rfl, rfl, (by show (0 : Int) < 2147483647; decide), ?_⟩⟩
        have t0 := Int.emod_nonneg (seed * 48271 + 12345) (show (2147483647 : Int) ≠ 0 by decide)
        have t1 := Int.emod_lt_of_pos (seed * 48271 + 12345) (show (0 : Int) < 2147483647 by decide)
        refine ⟨_, rfl, p, _, _, 3, rfl, rfl, g1, rfl, ?_⟩
        have g3 : upd H' p (.lst (List.set [V.ref l, V.int i', V.int acc', V.int seed] 3 (V.int ((seed * 48271 + 12345) % 2147483647)))) p = some (.lst [.ref l, .int i', .int acc', .int ((seed * 48271 + 12345) % 2147483647)]) := upd_same
        refine ⟨_, rfl, p, _, _, _, rfl, rfl, SqL.of g3, at_of (j := 3) rfl rfl, _, _, rfl, rfl, .inl ⟨by omega, by omega⟩, _, rfl, p, _, _, _, rfl, rfl, SqL.of g3, at_of (j := 3) rfl rfl, _, _, rfl, rfl, ⟨by decide, by decide⟩, _, _, rfl, rfl, .inl ⟨_, rfl, _, _, rfl, rfl, (by show (0 : Int) < 2147483629; decide), ?_⟩⟩
        refine ⟨_, rfl, .inl ⟨_, rfl, _, rfl, _, _, rfl, rfl, m0, ?_⟩⟩
        exact k _ _ (mod0 _) (mod1 _) ⟨ns, _, _, _, g3, by rw [upd_ne nlp]; exact g2, i0', acc0', t0, t1⟩ (oH.trans Only.upd)
theorem sc_Space_init : FnScope ["self", "rows", "first"] ["self", "rows", "first"] (defScope s_Space_init) := ⟨rfl, rfl, rfl, by decide +kernel, rfl, by decide +kernel, by decide +kernel⟩
theorem ok_Space_init (T : Txt w K mg a) : FnOk P w K mg base CX0 1 a.f_Space_init a.d_Space_init ["self", "rows", "first"] (sp_Space_init K a) := by
  refine T.F_Space_init.ok sc_Space_init (fun vs H Q E h => ?len) (fun cdv A outer s H vs Q E hr h => ?body)
  case len =>
    exact sp_Space_init_len h
  case body =>
    obtain ⟨p, dx, first, rows, rfl, hp, hfr, k⟩ := h
    refine ⟨_, (pss_cons (ps_fld (pv 0) (pv 1) rfl)
      (pss_cons (ps_fld (pv 0) (pv 2) rfl)
      (pss_cons (ps_fld (pv 0) pe_dnewK rfl)
      (pss_one (ps_fld (pv 0) (pv 2) rfl))))), ?_⟩
    refine ⟨_, rfl, _, rfl, p, _, dx, _, rfl, hp, T.cl_Space, T.na_Space_rows, (by show 0 < 1000; decide), ?_⟩
    refine ⟨_, rfl, _, rfl, p, _, dx, _, rfl, upd_same, T.cl_Space, T.na_Space_first, (by show 1 < 1000; decide), ?_⟩
    intro d hd
    have npd : p ≠ d := ne_of_none (upd_same) hd
    have hd0 : H d = none := by rw [upd_ne npd.symm, upd_ne npd.symm] at hd; exact hd
    refine ⟨_, rfl, p, _, dx, _, rfl, (by rw [upd_ne npd]; exact upd_same), T.cl_Space, T.na_Space_states, (by show 2 < 1000; decide), ?_⟩
    refine ⟨_, rfl, _, rfl, p, _, dx, _, rfl, upd_same, T.cl_Space, T.na_Space_lowest, (by show 3 < 1000; decide), ?_⟩
    refine k d _ hd0 ⟨dx, first, [], ?_, ?_, ⟨List.nodup_nil, fun _ => rfl, fun _ m => nomatch m⟩, Int.le_refl _, fun r a1 a2 => by omega, by omega⟩ fun b o e nb => ?_
    · rw [upd_same]
      exact congrArg (fun l => some (HO.ins a.c_Space dx l)) (flds_init (rows : Int) (first : Int) d)
    · rw [upd_ne npd.symm, upd_ne npd.symm, upd_same]
      rfl
    · rw [upd_ne nb, upd_ne nb, upd_ne (ne_of_none e hd0), upd_ne nb, upd_ne nb]
      exact e
theorem sc_Space_take : FnScope ["self", "row"] ["self"] (defScope s_Space_take) := ⟨rfl, rfl, rfl, by decide +kernel, rfl, by decide +kernel, by decide +kernel⟩
theorem ok_Space_take (T : Txt w K mg a) : FnOk P w K mg base (L2.CX P w) 1 a.f_Space_take a.d_Space_take ["self"] (sp_Space_take K a) := by
  refine T.F_Space_take.okX sc_Space_take (fun vs H Q E h => ?len) (fun cdv A outer s H vs Q E hr h => ?body)
  case len =>
    exact sp_Space_take_len h
  case body =>
    obtain ⟨p, d, first, rows, φ, rfl, hs, hr1, kE, kQ⟩ := h
    obtain ⟨dx, low, M, h1, h2, ok, l1, l2, l3⟩ := hs
    have npd : p ≠ d := ne_of h1 h2 (by intro z; cases z)
    refine ⟨_, (pss_cons (ps_set (i := 1) sc_Space_take.nd rfl (Or.inl rfl) (pe_fld (pv 0) rfl))
      (pss_cons (ps_while (passes_of rfl) (pt_cmp (pc_din (hu_of hr) (pv 1) (pe_fld (pv 0) rfl)))
      (pss_one (ps_aug (i := 1) sc_Space_take.nd rfl (Or.inl rfl) pe_int ip_add)))
      (pss_cons (ps_if (pt_cmpR op_ge (pv 1) (pe_fld (pv 0) rfl) (nomark _))
      (pss_one (ps_raise rfl (takes_of rfl rfl rfl rfl) (pmk_own PySem.F.excBase_ValueError T.x_NoSpace T.g_NoSpace T.k_NoSpace (raises_own T.b_NoSpace T.t_NoSpace) (by exact rfl))))
      pss_nil)
      (pss_cons (ps_dput (hu_of hr) (pe_fld (pv 0) rfl) (pv 1) (pe_const T.g_NEW) rfl)
      (pss_cons (ps_fld (pv 0) (pe_op op_add (pv 1) pe_int) rfl)
      (pss_one (ps_ret (pv 1)))))))), ?_⟩
    refine ⟨_, rfl, p, _, dx, _, _, rfl, h1, T.cl_Space, T.na_Space_lowest, flds_lowest _ _ _ _, ?_⟩
    -- while row in self._states
    refine ⟨fun n σ H' => ∃ row : Int, σ = [some (.ref p), some (.int row)] ∧ n = ((rows : Int) + 2 - row).toNat ∧ low ≤ row ∧ row ≤ rows + 1 ∧ (∀ r, (first : Int) ≤ r → r < row → φ r ≠ 0) ∧ H' = H, ⟨_, low, rfl, rfl, Int.le_refl _, l3, l2, rfl⟩, ?_⟩
    rintro n σ H' ⟨row, rfl, rfl, a1, a2, a3, rfl⟩
    refine ⟨_, rfl, _, rfl, p, _, dx, _, _, rfl, h1, T.cl_Space, T.na_Space_states, flds_states _ _ _ _, d, _, rfl, DGet.k (k := Sum.inl row) h2, _, rfl, ?_⟩
    rw [ok.val]
    by_cases e : φ row = 0
    · rw [if_pos e]
      refine iteF ?_
      refine ⟨_, rfl, _, rfl, p, _, dx, _, _, rfl, h1, T.cl_Space, T.na_Space_rows, flds_rows _ _ _ _, _, _, rfl, rfl, _, rfl, ite2 (fun b => kE (fun r hr => a3 r hr.1 (by have := of_decide_eq_true b; have := hr.2; omega)) _ (Same.refl _)) (fun b => ?_)⟩
      have b' : row < rows := Int.not_le.mp fun z => b (decide_eq_true z)
      have vn : valV (kvM M) (Sum.inl row) = none := by rw [ok.val, if_pos e]
      have lM : M.length ≤ rows := by rw [ok.len]; exact Nat.le_trans (pick_le _ _ _ _) (Nat.sub_le _ _)
      refine ⟨_, rfl, p, _, dx, _, _, rfl, h1, T.cl_Space, T.na_Space_states, flds_states _ _ _ _, _, rfl, d, _, rfl, DPut.k (k := Sum.inl row) h2 (small _ (by simp [kvM]; omega)), ?_⟩
      rw [kv_new vn]
      refine ⟨_, rfl, _, _, rfl, rfl, _, rfl, p, _, dx, _, rfl, by rw [upd_ne npd]; exact h1, T.cl_Space, T.na_Space_lowest, (by show 4 < 1000; decide), ?_⟩
      refine ⟨_, rfl, kQ row ⟨by omega, b'⟩ e a3 _ ⟨dx, row + 1, M ++ [(row, 1)], ?_, ?_, ok.put e ⟨by omega, b'⟩ ⟨by decide, by decide⟩, by omega, fun r r1 r2 => ?_, by omega⟩ fun b o eb n1 n2 => ?_⟩
      · rw [upd_same]
        exact congrArg (fun l => some (HO.ins a.c_Space dx l)) (flds_low (rows : Int) (first : Int) d low (row + 1))
      · rw [upd_ne npd.symm, upd_same]
      · unfold upF
        split
        · decide
        · exact a3 r r1 (by omega)
      · rw [upd_ne n1, upd_ne n2]
        exact eb
    · rw [if_neg e]
      refine iteT ?_
      have rg := (ok.range e).1
      refine ⟨fun σ' H'' => ∃ m', m' < ((rows : Int) + 2 - row).toNat ∧ _, fun _ _ q => q, ?_⟩
      refine ⟨_, rfl, _, _, rfl, rfl, _, ?_, row + 1, rfl, rfl, by omega, by omega, fun r r1 r2 => ?_, rfl⟩
      · omega
      · by_cases z : r = row
        · rw [z]
          exact e
        · exact a3 r r1 (by omega)
theorem sc_Space_settle : FnScope ["self", "row", "state"] ["self"] (defScope s_Space_settle) := ⟨rfl, rfl, rfl, by decide +kernel, rfl, by decide +kernel, by decide +kernel⟩
theorem ok_Space_settle (T : Txt w K mg a) : FnOk P w K mg base CX0 1 a.f_Space_settle a.d_Space_settle ["self"] (sp_Space_settle K a) := by
  refine T.F_Space_settle.ok sc_Space_settle (fun vs H Q E h => ?len) (fun cdv A outer s H vs Q E hr h => ?body)
  case len =>
    exact sp_Space_settle_len h
  case body =>
    obtain ⟨p, d, first, rows, φ, rfl, hs, hr1, k⟩ := h
    obtain ⟨dx, low, M, h1, h2, ok, l1, l2, l3⟩ := id hs
    have npd : p ≠ d := ne_of h1 h2 (by intro z; cases z)
    refine ⟨_, (pss_cons (ps_fld (pv 0) (pe_lock (pe_dc (own := [("row", 1), ("state", 2)]) (g := (gTup K 2 (gCons (gName 1) (gCons (gName 2) gNil)))) (by rfl) sc_Space_settle.nd (pi_items (pe_fld (pv 0) rfl)) (blkOk_by (own := [("row", 1), ("state", 2)]) (N := ["self", "row", "state"]) (sc := defScope s_Space_settle) (by decide +kernel))
      (fun _ _ _ _ _ => (pg_tup rfl (pgs_cons (pg_name (i := 1) sc_Space_settle.nd rfl (Or.inl rfl)) (pgs_cons (pg_name (i := 2) sc_Space_settle.nd rfl (Or.inl rfl)) pgs_nil)))) (fun _ _ _ _ _ => (pts_one (pt_cmpR op_ne (pv 2) (pe_const T.g_WAITING) (nomark _)))) (fun _ _ _ _ _ => (pv 1)) (fun _ _ _ _ _ => (pe_const T.g_OLD)))) rfl)
      (pss_one (ps_fld (pv 0) (pe_fld (pv 0) rfl) rfl))), ?_⟩
    have hdl : upd H d (.dK (kvM M)) = H := funext fun b => by
      by_cases z : b = d
      · rw [z, upd_same, h2]
      · rw [upd_ne z]
    refine ⟨d, _, h2, trivial, fun od => ?_⟩
    have h1' : upd H d (.frz od (.dK (kvM M))) p = some (.ins a.c_Space dx (flds rows first d low)) := by rw [upd_ne npd]; exact h1
    refine ⟨_, rfl, p, _, dx, _, _, rfl, h1', T.cl_Space, T.na_Space_states, flds_states _ _ _ _, d, od, kvM M, rfl, upd_same, fun D nD => ?_⟩
    have lM : M.length ≤ rows := by rw [ok.len]; exact Nat.le_trans (pick_le _ _ _ _) (Nat.sub_le _ _)
    have lk : (kvM M).length = M.length := by simp [kvM]
    have frz : upd H d (.frz od (.dK (kvM M))) d = some (.frz od (.dK (kvM M))) := upd_same
    have wk := walk_items (d := d) (o := od) (kvs := kvM M)
    refine ⟨fun i m H' => m = (kvM M).length - i ∧ i ≤ (kvM M).length ∧ Same (upd H d (.frz od (.dK (kvM M)))) H' ∧ H' D = some (.dK (kvM (settM (M.take i)))), ⟨_, rfl, Nat.zero_le _, Same.new nD, upd_same⟩, ?_⟩
    rintro i m H1 ⟨rfl, hi, s1, hD⟩
    by_cases hlt : i < (kvM M).length
    · refine .inr ⟨wk.goes i H1 hlt (s1 _ _ frz), fun H' => Same (upd H d (.frz od (.dK (kvM M)))) H' ∧ H' D = some (.dK (kvM (settM (M.take (i + 1))))), fun H' q => ⟨(kvM M).length - (i + 1), by omega, rfl, hlt, q.1, q.2⟩, fun x H' y => ?_⟩
      obtain ⟨t, u, v, rfl, ht, rfl, hu, hv⟩ := wk.yields i H1 x H' hlt (s1 _ _ frz) y
      obtain ⟨q, hq, e1, e2⟩ : ∃ q : Int × Int, M[i]? = some q ∧ u = V.int q.1 ∧ v = V.int q.2 := by
        replace hu : ((kvM M)[i]?.map fun kv => kV kv.1) = some u := hu
        replace hv : ((kvM M)[i]?.map Prod.snd) = some v := hv
        unfold kvM at hu hv
        rw [List.getElem?_map] at hu hv
        cases z : M[i]? with
        | none => rw [z] at hu; cases hu
        | some q => rw [z] at hu hv; exact ⟨q, rfl, (Option.some.inj hu).symm, (Option.some.inj hv).symm⟩
      subst e1 e2
      have mq := List.mem_of_getElem? hq
      have st := Same.new (o := .tup [V.int q.1, V.int q.2]) ht
      have es : settM (M.take (i + 1)) = settM (M.take i) ++ if q.2 = 3 then [] else [(q.1, 2)] := by
        unfold settM
        rw [take_snoc hq, List.filter_append, List.map_append]
        congr 1
        by_cases e3 : q.2 = 3 <;> simp [e3]
      refine ⟨t, _, rfl, SqT.of upd_same, rfl, _, _, rfl, _, _, rfl, rfl, ?_⟩
      refine ⟨rfl, _, rfl, rfl, _, rfl, ite2 (fun b => ?_) (fun b => ?_)⟩
      · have q3 : q.2 ≠ 3 := fun z => by simp [z] at b
        rw [if_neg q3] at es
        have vn : valV (kvM (settM (M.take i))) (Sum.inl q.1) = none := by
          rw [valV_M]
          cases z : (settM (M.take i)).find? fun y => decide (y.1 = q.1) with
          | none => rfl
          | some y =>
            exfalso
            have h0 := List.find?_some z
            have h1 : y.1 = q.1 := of_decide_eq_true h0
            obtain ⟨w, mw, e⟩ := List.mem_map.mp (List.mem_of_find?_eq_some z)
            have mw := (List.mem_filter.mp mw).1
            have e1 : w.1 = q.1 := by rw [← h1, ← e]
            obtain ⟨j, hj⟩ := List.mem_iff_getElem?.mp mw
            rw [List.getElem?_take] at hj
            split at hj
            · next hji =>
              have k1 : (M.map (·.1))[j]? = some q.1 := by rw [List.getElem?_map, hj, ← e1]; rfl
              have k2 : (M.map (·.1))[i]? = some q.1 := by rw [List.getElem?_map, hq]; rfl
              have lj := item_lt hj
              have := (List.getElem?_inj (by rw [List.length_map]; exact lj) ok.nd).mp (k1.trans k2.symm)
              omega
            · cases hj
        refine ⟨_, rfl, _, Sum.inl q.1, rfl, st _ _ hD, small _ ?_, same_put (s1.trans st) nD, ?_⟩
        · unfold kvM settM
          rw [List.length_map, List.length_map]
          have := List.length_filter_le (fun q : Int × Int => decide (q.2 ≠ 3)) (M.take i)
          rw [List.length_take] at this
          omega
        · rw [upd_same, es, kv_new vn]
      · have q3 : q.2 = 3 := Classical.byContradiction fun z => b (by simp [z])
        rw [if_pos q3, List.append_nil] at es
        exact ⟨s1.trans st, by rw [es]; exact st _ _ hD⟩
    · have ei : i = (kvM M).length := by omega
      subst ei
      refine .inl ⟨wk.stops H1 (s1 _ _ frz), ?_⟩
      rw [lk, List.take_length] at hD
      have hd1 := s1 _ _ frz
      have nDd : D ≠ d := (ne_of_none frz nD).symm
      have nD0 : H D = none := by rw [upd_ne nDd] at nD; exact nD
      have npD : p ≠ D := ne_of_none h1' nD
      have s2 : Same H (upd H1 d (.dK (kvM M))) := fun b o e => by
        by_cases z : b = d
        · subst z
          rw [upd_same]
          rw [h2] at e
          exact e
        · rw [upd_ne z]
          exact s1 _ _ (by rw [upd_ne z]; exact e)
      refine ⟨hd1, _, rfl, p, _, dx, _, rfl, s2 _ _ h1, T.cl_Space, T.na_Space_states, (by show 4 < 1000; decide), ?_⟩
      rw [flds_st]
      refine ⟨_, rfl, p, _, dx, _, _, rfl, upd_same, T.cl_Space, T.na_Space_first, flds_first _ _ _ _, _, rfl, p, _, dx, _, rfl, upd_same, T.cl_Space, T.na_Space_lowest, (by show 4 < 1000; decide), ?_⟩
      rw [flds_low]
      refine k D _ nD0 ⟨dx, first, settM M, upd_same, ?_, ok.sett, Int.le_refl _, fun r r1 r2 => absurd r2 (by omega), by omega⟩ fun b o eb n1 n2 => ?_
      · rw [upd_ne npD.symm, upd_ne npD.symm, upd_ne nDd]
        exact hD
      · rw [upd_ne n1, upd_ne n1]
        exact s2 _ _ eb
theorem sc_Space_free_count : FnScope ["self"] ["self"] (defScope s_Space_free_count) := ⟨rfl, rfl, rfl, by decide +kernel, rfl, by decide +kernel, by decide +kernel⟩
theorem ok_Space_free_count (T : Txt w K mg a) : FnOk P w K mg base CX0 1 a.f_Space_free_count a.d_Space_free_count ["self"] (sp_Space_free_count K a) := by
  refine T.F_Space_free_count.ok sc_Space_free_count (fun vs H Q E h => ?len) (fun cdv A outer s H vs Q E hr h => ?body)
  case len =>
    exact sp_Space_free_count_len h
  case body =>
    obtain ⟨p, d, first, rows, φ, rfl, hs, k⟩ := h
    obtain ⟨dx, low, M, h1, h2, ok, l1, l2, l3⟩ := id hs
    refine ⟨_, (pss_one (ps_ret (pe_op op_sub (pe_op op_sub (pe_fld (pv 0) rfl) (pe_fld (pv 0) rfl)) (pe_callB call_lenD (by rfl) T.n_len PySem.boot_len (pa_cons (pe_fld (pv 0) rfl) pa_nil))))), ?_⟩
    refine ⟨_, rfl, p, _, dx, _, _, rfl, h1, T.cl_Space, T.na_Space_rows, flds_rows _ _ _ _, _, rfl, p, _, dx, _, _, rfl, h1, T.cl_Space, T.na_Space_first, flds_first _ _ _ _, _, _, rfl, rfl, _, rfl, p, _, dx, _, _, rfl, h1, T.cl_Space, T.na_Space_states, flds_states _ _ _ _, d, _, rfl, h2, _, _, rfl, rfl, ?_⟩
    have e : ((kvM M).length : Int) = ((pickL first rows φ fun s => decide (s ≠ 0)).length : Nat) := by rw [← ok.len]; simp [kvM]
    show Q (.int ((rows : Int) - first - ((kvM M).length : Int))) H
    rw [e]
    exact k
theorem sc_Space_used_rows : FnScope ["self", "row", "state"] ["self"] (defScope s_Space_used_rows) := ⟨rfl, rfl, rfl, by decide +kernel, rfl, by decide +kernel, by decide +kernel⟩
theorem ok_Space_used_rows (T : Txt w K mg a) : FnOk P w K mg base CX0 1 a.f_Space_used_rows a.d_Space_used_rows ["self"] (sp_Space_used_rows K a) := by
  refine T.F_Space_used_rows.ok sc_Space_used_rows (fun vs H Q E h => ?len) (fun cdv A outer s H vs Q E hr h => ?body)
  case len =>
    exact sp_Space_used_rows_len h
  case body =>
    obtain ⟨p, d, first, rows, φ, rfl, hs, hr1, k⟩ := h
    obtain ⟨dx, low, M, h1, h2, ok, l1, l2, l3⟩ := id hs
    have npd : p ≠ d := ne_of h1 h2 (by intro z; cases z)
    refine ⟨_, (pss_one (ps_ret (pe_callB cr_sorted (by rfl) T.n_sorted (by decide +kernel) (pa_cons (pe_lock (pe_lc (own := [("row", 1), ("state", 2)]) (g := (gTup K 2 (gCons (gName 1) (gCons (gName 2) gNil)))) (by rfl) sc_Space_used_rows.nd (pi_items (pe_fld (pv 0) rfl)) (blkOk_by (own := [("row", 1), ("state", 2)]) (N := ["self", "row", "state"]) (sc := defScope s_Space_used_rows) (by decide +kernel))
      (fun _ _ _ _ _ => (pg_tup rfl (pgs_cons (pg_name (i := 1) sc_Space_used_rows.nd rfl (Or.inl rfl)) (pgs_cons (pg_name (i := 2) sc_Space_used_rows.nd rfl (Or.inl rfl)) pgs_nil)))) (fun _ _ _ _ _ => (pts_one (pt_cmpR op_ne (pv 2) (pe_const T.g_WAITING) (nomark _)))) (fun _ _ _ _ _ => (pv 1)))) pa_nil)))), ?_⟩
    refine ⟨d, _, h2, trivial, fun od => ?_⟩
    have h1' : upd H d (.frz od (.dK (kvM M))) p = some (.ins a.c_Space dx (flds rows first d low)) := by rw [upd_ne npd]; exact h1
    refine ⟨_, rfl, p, _, dx, _, _, rfl, h1', T.cl_Space, T.na_Space_states, flds_states _ _ _ _, d, od, kvM M, rfl, upd_same, fun D nD => ?_⟩
    refine lc_it walk_items (fun i H' => Same (upd H d (.frz od (.dK (kvM M)))) H' ∧ H' D = some (.lst ((((M.take i).filter fun q => (fun s : Int => decide (s = 1 ∨ s = 2)) q.2).map (·.1)).map V.int))) ⟨Same.new nD, upd_same⟩ (fun i H' _ q => q.1 _ _ upd_same) ?_ ?_
    · rintro i y H1 H2 hi ⟨s1, hD⟩ ⟨t, u, v, rfl, ht, rfl, hu, hv⟩
      obtain ⟨q, hq, e1, e2⟩ : ∃ q : Int × Int, M[i]? = some q ∧ u = V.int q.1 ∧ v = V.int q.2 := by
        replace hu : ((kvM M)[i]?.map fun kv => kV kv.1) = some u := hu
        replace hv : ((kvM M)[i]?.map Prod.snd) = some v := hv
        unfold kvM at hu hv
        rw [List.getElem?_map] at hu hv
        cases z : M[i]? with
        | none => rw [z] at hu; cases hu
        | some q => rw [z] at hu hv; exact ⟨q, rfl, (Option.some.inj hu).symm, (Option.some.inj hv).symm⟩
      subst e1 e2
      have mq := List.mem_of_getElem? hq
      have rq := (ok.inn q mq).2
      have st := Same.new (o := .tup [V.int q.1, V.int q.2]) ht
      have fs : (M.take (i + 1)).filter (fun q => (fun s : Int => decide (s = 1 ∨ s = 2)) q.2) = (M.take i).filter (fun q => (fun s : Int => decide (s = 1 ∨ s = 2)) q.2) ++ if decide ((fun s : Int => (s = 1 ∨ s = 2)) q.2) then [q] else [] := by
        rw [take_snoc hq, List.filter_append]
        congr 1
        simp only [List.filter_cons, List.filter_nil]
      have fl : ((M.take i).filter fun q => (fun s : Int => decide (s = 1 ∨ s = 2)) q.2).length ≤ M.length := Nat.le_trans (List.length_filter_le _ _) (by rw [List.length_take]; exact Nat.min_le_right _ _)
      have lM : M.length ≤ rows - first := by rw [ok.len]; exact pick_le _ _ _ _
      refine ⟨t, _, rfl, SqT.of upd_same, rfl, _, _, rfl, _, _, rfl, rfl, ?_⟩
      refine ⟨rfl, _, rfl, rfl, _, rfl, ite2 (fun b => ?_) (fun b => ?_)⟩
      · have q3 : q.2 ≠ 3 := fun z => by simp [z] at b
        have dq : (1 : Int) ≤ q.2 ∧ (q.2 = 1 ∨ q.2 = 2) := ⟨rq.1, by omega⟩
        rw [decide_eq_true (show (fun s : Int => (s = 1 ∨ s = 2)) q.2 from dq.2)] at fs
        refine ⟨_, rfl, _, st _ _ hD, small _ (by rw [List.length_map, List.length_map]; omega), same_put (s1.trans st) nD, ?_⟩
        rw [upd_same, fs, List.map_append, List.map_append]
        rfl
      · have q3 : q.2 = 3 := Classical.byContradiction fun z => b (by simp [z])
        rw [decide_eq_false (show ¬ (fun s : Int => (s = 1 ∨ s = 2)) q.2 from (by rw [q3]; decide))] at fs
        refine ⟨s1.trans st, ?_⟩
        rw [fs]
        simp only [Bool.false_eq_true, if_false, List.append_nil]
        exact st _ _ hD
    rintro H1 ⟨s1, hD⟩
    have lk : (kvM M).length = M.length := by simp [kvM]
    rw [lk, List.take_length] at hD
    have hd1 := s1 _ _ (show upd H d (.frz od (.dK (kvM M))) d = some (.frz od (.dK (kvM M))) from upd_same)
    have lM : M.length ≤ rows - first := by rw [ok.len]; exact pick_le _ _ _ _
    have nDd : D ≠ d := (ne_of_none (show upd H d (.frz od (.dK (kvM M))) d = some (.frz od (.dK (kvM M))) from upd_same) nD).symm
    have nD0 : H D = none := by rw [upd_ne nDd] at nD; exact nD
    have hD2 : upd H1 d (.dK (kvM M)) D = some (.lst (((M.filter fun q => (fun s : Int => decide (s = 1 ∨ s = 2)) q.2).map (·.1)).map V.int)) := by rw [upd_ne nDd]; exact hD
    have s2 : Same H (upd H1 d (.dK (kvM M))) := fun b o e => by
      by_cases z : b = d
      · subst z
        rw [upd_same]
        rw [h2] at e
        exact e
      · rw [upd_ne z]
        exact s1 _ _ (by rw [upd_ne z]; exact e)
    refine ⟨hd1, D, _, rfl, SqL.of hD2, by rw [List.length_map]; exact Nat.lt_of_le_of_lt (List.length_filter_le _ _) (by omega), fun ns Z pm om nZ => ?_⟩
    have e : ns = pickL first rows φ fun s => decide (s = 1 ∨ s = 2) := sorted_one (pm.trans (pick_perm ok (fun s => decide (s = 1 ∨ s = 2)) (by decide))) om (pick_sorted _ _ _ _)
    rw [e]
    refine k Z _ (s2.trans (Same.new nZ)) (same_none s2 nZ) upd_same
theorem sc_Space_waiting_rows : FnScope ["self", "row", "state"] ["self"] (defScope s_Space_waiting_rows) := ⟨rfl, rfl, rfl, by decide +kernel, rfl, by decide +kernel, by decide +kernel⟩
theorem ok_Space_waiting_rows (T : Txt w K mg a) : FnOk P w K mg base CX0 1 a.f_Space_waiting_rows a.d_Space_waiting_rows ["self"] (sp_Space_waiting_rows K a) := by
  refine T.F_Space_waiting_rows.ok sc_Space_waiting_rows (fun vs H Q E h => ?len) (fun cdv A outer s H vs Q E hr h => ?body)
  case len =>
    exact sp_Space_waiting_rows_len h
  case body =>
    obtain ⟨p, d, first, rows, φ, rfl, hs, hr1, k⟩ := h
    obtain ⟨dx, low, M, h1, h2, ok, l1, l2, l3⟩ := id hs
    have npd : p ≠ d := ne_of h1 h2 (by intro z; cases z)
    refine ⟨_, (pss_one (ps_ret (pe_callB cr_sorted (by rfl) T.n_sorted (by decide +kernel) (pa_cons (pe_lock (pe_lc (own := [("row", 1), ("state", 2)]) (g := (gTup K 2 (gCons (gName 1) (gCons (gName 2) gNil)))) (by rfl) sc_Space_waiting_rows.nd (pi_items (pe_fld (pv 0) rfl)) (blkOk_by (own := [("row", 1), ("state", 2)]) (N := ["self", "row", "state"]) (sc := defScope s_Space_waiting_rows) (by decide +kernel))
      (fun _ _ _ _ _ => (pg_tup rfl (pgs_cons (pg_name (i := 1) sc_Space_waiting_rows.nd rfl (Or.inl rfl)) (pgs_cons (pg_name (i := 2) sc_Space_waiting_rows.nd rfl (Or.inl rfl)) pgs_nil)))) (fun _ _ _ _ _ => (pts_one (pt_cmpR op_eq (pv 2) (pe_const T.g_WAITING) (nomark _)))) (fun _ _ _ _ _ => (pv 1)))) pa_nil)))), ?_⟩
    refine ⟨d, _, h2, trivial, fun od => ?_⟩
    have h1' : upd H d (.frz od (.dK (kvM M))) p = some (.ins a.c_Space dx (flds rows first d low)) := by rw [upd_ne npd]; exact h1
    refine ⟨_, rfl, p, _, dx, _, _, rfl, h1', T.cl_Space, T.na_Space_states, flds_states _ _ _ _, d, od, kvM M, rfl, upd_same, fun D nD => ?_⟩
    refine lc_it walk_items (fun i H' => Same (upd H d (.frz od (.dK (kvM M)))) H' ∧ H' D = some (.lst ((((M.take i).filter fun q => (fun s : Int => decide (s = 3)) q.2).map (·.1)).map V.int))) ⟨Same.new nD, upd_same⟩ (fun i H' _ q => q.1 _ _ upd_same) ?_ ?_
    · rintro i y H1 H2 hi ⟨s1, hD⟩ ⟨t, u, v, rfl, ht, rfl, hu, hv⟩
      obtain ⟨q, hq, e1, e2⟩ : ∃ q : Int × Int, M[i]? = some q ∧ u = V.int q.1 ∧ v = V.int q.2 := by
        replace hu : ((kvM M)[i]?.map fun kv => kV kv.1) = some u := hu
        replace hv : ((kvM M)[i]?.map Prod.snd) = some v := hv
        unfold kvM at hu hv
        rw [List.getElem?_map] at hu hv
        cases z : M[i]? with
        | none => rw [z] at hu; cases hu
        | some q => rw [z] at hu hv; exact ⟨q, rfl, (Option.some.inj hu).symm, (Option.some.inj hv).symm⟩
      subst e1 e2
      have mq := List.mem_of_getElem? hq
      have rq := (ok.inn q mq).2
      have st := Same.new (o := .tup [V.int q.1, V.int q.2]) ht
      have fs : (M.take (i + 1)).filter (fun q => (fun s : Int => decide (s = 3)) q.2) = (M.take i).filter (fun q => (fun s : Int => decide (s = 3)) q.2) ++ if decide ((fun s : Int => (s = 3)) q.2) then [q] else [] := by
        rw [take_snoc hq, List.filter_append]
        congr 1
        simp only [List.filter_cons, List.filter_nil]
      have fl : ((M.take i).filter fun q => (fun s : Int => decide (s = 3)) q.2).length ≤ M.length := Nat.le_trans (List.length_filter_le _ _) (by rw [List.length_take]; exact Nat.min_le_right _ _)
      have lM : M.length ≤ rows - first := by rw [ok.len]; exact pick_le _ _ _ _
      refine ⟨t, _, rfl, SqT.of upd_same, rfl, _, _, rfl, _, _, rfl, rfl, ?_⟩
      refine ⟨rfl, _, rfl, rfl, _, rfl, ite2 (fun b => ?_) (fun b => ?_)⟩
      · have q3 : q.2 = 3 := V.int.inj (of_decide_eq_true b)
        have dq : (1 : Int) ≤ q.2 ∧ q.2 = 3 := ⟨rq.1, q3⟩
        rw [decide_eq_true (show (fun s : Int => (s = 3)) q.2 from dq.2)] at fs
        refine ⟨_, rfl, _, st _ _ hD, small _ (by rw [List.length_map, List.length_map]; omega), same_put (s1.trans st) nD, ?_⟩
        rw [upd_same, fs, List.map_append, List.map_append]
        rfl
      · have q3 : q.2 ≠ 3 := fun z => b (decide_eq_true (by rw [z]))
        rw [decide_eq_false (show ¬ (fun s : Int => (s = 3)) q.2 from q3)] at fs
        refine ⟨s1.trans st, ?_⟩
        rw [fs]
        simp only [Bool.false_eq_true, if_false, List.append_nil]
        exact st _ _ hD
    rintro H1 ⟨s1, hD⟩
    have lk : (kvM M).length = M.length := by simp [kvM]
    rw [lk, List.take_length] at hD
    have hd1 := s1 _ _ (show upd H d (.frz od (.dK (kvM M))) d = some (.frz od (.dK (kvM M))) from upd_same)
    have lM : M.length ≤ rows - first := by rw [ok.len]; exact pick_le _ _ _ _
    have nDd : D ≠ d := (ne_of_none (show upd H d (.frz od (.dK (kvM M))) d = some (.frz od (.dK (kvM M))) from upd_same) nD).symm
    have nD0 : H D = none := by rw [upd_ne nDd] at nD; exact nD
    have hD2 : upd H1 d (.dK (kvM M)) D = some (.lst (((M.filter fun q => (fun s : Int => decide (s = 3)) q.2).map (·.1)).map V.int)) := by rw [upd_ne nDd]; exact hD
    have s2 : Same H (upd H1 d (.dK (kvM M))) := fun b o e => by
      by_cases z : b = d
      · subst z
        rw [upd_same]
        rw [h2] at e
        exact e
      · rw [upd_ne z]
        exact s1 _ _ (by rw [upd_ne z]; exact e)
    refine ⟨hd1, D, _, rfl, SqL.of hD2, by rw [List.length_map]; exact Nat.lt_of_le_of_lt (List.length_filter_le _ _) (by omega), fun ns Z pm om nZ => ?_⟩
    have e : ns = pickL first rows φ fun s => decide (s = 3) := sorted_one (pm.trans (pick_perm ok (fun s => decide (s = 3)) (by decide))) om (pick_sorted _ _ _ _)
    rw [e]
    refine k Z _ (s2.trans (Same.new nZ)) (same_none s2 nZ) upd_same
theorem sc_Store_look : FnScope ["self", "images"] ["self", "images"] (defScope s_Store_look) := ⟨rfl, rfl, rfl, by decide +kernel, rfl, by decide +kernel, by decide +kernel⟩
theorem ok_Store_look (T : Txt w K mg a) : FnOk P w K mg base CX0 1 a.f_Store_look a.d_Store_look ["self", "images"] (sp_Store_look K a) := by
  refine T.F_Store_look.ok sc_Store_look (fun vs H Q E h => ?len) (fun cdv A outer s H vs Q E hr h => ?body)
  case len =>
    exact sp_Store_look_len h
  case body =>
    obtain ⟨S, I, m, rfl, h, k⟩ := h
    refine ⟨_, (pss_one (ps_fld (pv 0) (pv 1) rfl)), ?_⟩
    refine ⟨_, rfl, _, rfl, S, _, m.dx, _, rfl, h.hS, T.cl_Store, T.na_Store_images, (by show 10 < 1000; decide), ?_⟩
    have e : HO.ins a.c_Store m.dx (putF "_images" (.ref I) (sflds m)) = HO.ins a.c_Store m.dx (sflds { m with I := I }) := congrArg _ (sf_set_images m I)
    show Q .non (upd H S (HO.ins a.c_Store m.dx (putF "_images" (.ref I) (sflds m))))
    rw [e]
    have ne : ∀ {b o}, H b = some o → o ≠ .ins a.c_Store m.dx (sflds m) → b ≠ S := fun h1 n => ne_of h1 h.hS n
    refine k _ ⟨upd_same, ?_, ?_, fun d md => ?_, h.su, ?_, ?_, h.bm, fun b mb => ?_, h.nd, h.m0, h.ser, h.un, h.row, h.dis, h.asc, h.op⟩ fun b o e n => by rw [upd_ne n]; exact e
    · show upd H S _ m.mL = _
      rw [upd_ne (ne h.hm (by intro z; cases z))]
      exact h.hm
    · show upd H S _ m.spd = _
      rw [upd_ne (ne h.hs (by intro z; cases z))]
      exact h.hs
    · exact (h.sp d md).keep (fun o e => by
        obtain ⟨_, _, _, e1, _⟩ := h.sp d md
        show upd H S _ (m.sp d).1 = _
        rw [upd_ne (ne e1 fun z => ?_)]
        · exact e
        · injection z with _ _ z
          exact absurd (congrArg List.length z) (by show ¬ (4 = 10); decide)) fun o e => by
        obtain ⟨_, _, _, _, e1, _⟩ := h.sp d md
        show upd H S _ (m.sp d).2 = _
        rw [upd_ne (ne e1 (by intro z; cases z))]
        exact e
    · show upd H S _ m.bD = _
      rw [upd_ne (ne h.hb (by intro z; cases z))]
      exact h.hb
    · show upd H S _ m.mD = _
      rw [upd_ne (ne h.hM (by intro z; cases z))]
      exact h.hM
    · have hb := h.blk b mb
      exact ⟨by rw [upd_ne (ne hb.t (by intro z; cases z))]; exact hb.t, by rw [upd_ne (ne hb.pt (by intro z; cases z))]; exact hb.pt, fun e me => by rw [upd_ne (ne (hb.q e me) (by intro z; cases z))]; exact hb.q e me, fun z => by rw [upd_ne (ne (hb.w z) (by intro z; cases z))]; exact hb.w z⟩
theorem sc_sector_at : FnScope ["images", "disk", "row"] ["images", "disk", "row"] (defScope s_sector_at) := ⟨rfl, rfl, rfl, by decide +kernel, rfl, by decide +kernel, by decide +kernel⟩
theorem ok_sector_at (T : Txt w K mg a) : FnOk P w K mg base CX0 2 a.f_sector_at a.d_sector_at ["images", "disk", "row"] (sp_sector_at K a) := by
  refine T.F_sector_at.ok sc_sector_at (fun vs H Q E h => ?len) (fun cdv A outer s H vs Q E hr h => ?body)
  case len =>
    exact sp_sector_at_len h
  case body =>
    exact h.2.elim
theorem sc_weight : FnScope ["place", "others", "x", "above", "below", "other"] ["place", "others", "x"] (defScope s_weight) := ⟨rfl, rfl, rfl, by decide +kernel, rfl, by decide +kernel, by decide +kernel⟩
theorem ok_weight (T : Txt w K mg a) : FnOk P w K mg base CX0 2 a.f_weight a.d_weight ["place", "others", "x"] (sp_weight K a) := by
  refine T.F_weight.ok sc_weight (fun vs H Q E h => ?len) (fun cdv A outer s H vs Q E hr h => ?body)
  case len =>
    exact sp_weight_len h
  case body =>
    obtain ⟨p, o, os, x, rfl, hO, hne, k⟩ := h
    refine ⟨_, (pss_cons (ps_asg (pe_tup (pa_cons pe_int (pa_cons pe_int pa_nil))) (pg_tup rfl (pgs_cons (pg_name (i := 3) sc_weight.nd rfl (Or.inl rfl)) (pgs_cons (pg_name (i := 4) sc_weight.nd rfl (Or.inl rfl)) pgs_nil))))
      (pss_cons (ps_for PassesOwn.never rfl (pi_list (pv 1)) (pg_name (i := 5) sc_weight.nd rfl (Or.inl rfl))
      (pss_cons (ps_set (i := 3) sc_weight.nd rfl (Or.inl rfl) (pe_op op_mod (pe_op op_mul (pv 3) (pe_op op_sub (pv 2) (pv 5))) (pe_const T.g_PRIME)))
      (pss_one (ps_set (i := 4) sc_weight.nd rfl (Or.inl rfl) (pe_op op_mod (pe_op op_mul (pv 4) (pe_op op_sub (pv 0) (pv 5))) (pe_const T.g_PRIME))))))
      (pss_one (ps_ret (pe_op op_mod (pe_op op_mul (pv 3) (pe_call (ok_inverse T) (hr.mono (by decide)) rfl T.g_inverse T.F_inverse.kp T.d_inverse .nil passL (pa_cons (pv 4) pa_nil))) (pe_const T.g_PRIME)))))), ?_⟩
    refine ⟨by show 2 ≤ sizeLine; decide, fun t ht => ?_⟩
    have sm : Same H (upd H t (.tup [V.int 1, V.int 1])) := Same.new ht
    refine ⟨t, _, rfl, SqT.of upd_same, rfl, _, _, rfl, _, _, rfl, rfl, ?_⟩
    refine ⟨_, rfl, o, rfl, ⟨_, sm.seq hO⟩, for_list (K := K) (a := o) (xs := os.map V.int) (fun i σ H' => ∃ v : Option V, σ = [some (.int p), some (.ref o), some (.int x), some (.int (prodM (os.take i) x 1)), some (.int (prodM (os.take i) p 1)), v] ∧ Same H H')
      ⟨none, rfl, sm⟩ (fun i σ H' _ ⟨_, _, s⟩ => s.seq hO) ?_ ?_⟩
    · rintro i y σ H' hi ⟨v, rfl, s'⟩
      obtain ⟨c, hc, rfl⟩ := int_item hi
      have b1 := prodM_word (os.take i) x 1 (by decide) (by decide)
      have b2 := prodM_word (os.take i) p 1 (by decide) (by decide)
      refine ⟨_, rfl, _, rfl, _, rfl, _, _, rfl, rfl, _, _, rfl, rfl, .inl ⟨by omega, by omega⟩, _, _, rfl, rfl, (by show (0 : Int) < 65521; decide), ?_⟩
      refine ⟨_, rfl, _, rfl, _, rfl, _, _, rfl, rfl, _, _, rfl, rfl, .inl ⟨by omega, by omega⟩, _, _, rfl, rfl, (by show (0 : Int) < 65521; decide), ?_⟩
      refine ⟨some (V.int c), ?_, s'⟩
      rw [take_snoc hc, prodM_snoc, prodM_snoc]
      rfl
    · rintro σ H' ⟨v, rfl, s'⟩
      have ea : os.take (os.map V.int).length = os := by rw [List.length_map, List.take_length]
      rw [ea]
      have b1 := prodM_word os x 1 (by decide) (by decide)
      refine ⟨_, rfl, _, rfl, _, rfl, fun z => absurd z hne, fun _ H2 s2 => ?_⟩
      refine ⟨_, _, rfl, rfl, .inl ⟨by omega, by omega⟩, _, _, rfl, rfl, (by show (0 : Int) < 65521; decide), ?_⟩
      exact k _ (s'.trans s2)
theorem sc_present_numbers : FnScope ["pieces", "data", "present", "number", "piece"] ["pieces", "data"] (defScope s_present_numbers) := ⟨rfl, rfl, rfl, by decide +kernel, rfl, by decide +kernel, by decide +kernel⟩
theorem ok_present_numbers (T : Txt w K mg a) : FnOk P w K mg base CX0 2 a.f_present_numbers a.d_present_numbers ["pieces", "data"] (sp_present_numbers K a) := by
  refine T.F_present_numbers.ok sc_present_numbers (fun vs H Q E h => ?len) (fun cdv A outer s H vs Q E hr h => ?body)
  case len =>
    exact sp_present_numbers_len h
  case body =>
    exact h.2.elim
theorem sc_seal : FnScope ["kind", "disk", "row", "stamp", "payload", "epoch", "serial", "words"] ["kind", "disk", "row", "stamp", "payload"] (defScope s_seal) := ⟨rfl, rfl, rfl, by decide +kernel, rfl, by decide +kernel, by decide +kernel⟩
theorem ok_seal (T : Txt w K mg a) : FnOk P w K mg base (L2.CX P w) 2 a.f_seal a.d_seal ["kind", "disk", "row", "stamp", "payload"] (sp_seal K a) := by
  refine T.F_seal.okX sc_seal (fun vs H Q E h => ?len) (fun cdv A outer s H vs Q E hr h => ?body)
  case len =>
    exact sp_seal_len h
  case body =>
    obtain ⟨k, d, r, st, pl, e, s', ws, rfl, hT, hS, hlen, kE, kQ⟩ := h
    refine ⟨_, (pss_cons (ps_asg (pv 3) (pg_tup rfl (pgs_cons (pg_name (i := 5) sc_seal.nd rfl (Or.inl rfl)) (pgs_cons (pg_name (i := 6) sc_seal.nd rfl (Or.inl rfl)) pgs_nil))))
      (pss_cons (ps_if (pt_not (pt_val (pe_call (ok_is_place T) (hr.mono (by decide)) rfl T.g_is_place T.F_is_place.kp T.d_is_place .nil pass0 (pa_cons (pv 0) (pa_cons (pv 1) (pa_cons (pv 2) pa_nil))))))
      (pss_one (ps_raise rfl (takes_of rfl rfl rfl rfl) (pmk_own PySem.F.excBase_ValueError T.x_InvalidArgument T.g_InvalidArgument T.k_InvalidArgument (raises_own T.b_InvalidArgument T.t_InvalidArgument) (by exact rfl))))
      pss_nil)
      (pss_cons (ps_if (PW.pt (pw_or (pt_not (pt_chain op_le op_lt pe_int (pv 5) (pe_const T.g_PRIME))) (pw_or1 (pt_not (pt_chain op_le op_lt pe_int (pv 6) (pe_op op_mul (pe_const T.g_PRIME) (pe_const T.g_PRIME)))))))
      (pss_one (ps_raise rfl (takes_of rfl rfl rfl rfl) (pmk_own PySem.F.excBase_ValueError T.x_InvalidArgument T.g_InvalidArgument T.k_InvalidArgument (raises_own T.b_InvalidArgument T.t_InvalidArgument) (by exact rfl))))
      pss_nil)
      (pss_cons (ps_if (pt_cmpR op_gt (pe_callB call_len_seq (by rfl) T.n_len PySem.boot_len (pa_cons (pv 4) pa_nil)) (pe_const T.g_MAX_PAYLOAD) (nomark _))
      (pss_one (ps_raise rfl (takes_of rfl rfl rfl rfl) (pmk_own PySem.F.excBase_ValueError T.x_InvalidArgument T.g_InvalidArgument T.k_InvalidArgument (raises_own T.b_InvalidArgument T.t_InvalidArgument) (by exact rfl))))
      pss_nil)
      (pss_cons (ps_set (i := 7) sc_seal.nd rfl (Or.inl rfl) (pe_lst (pa_cons (pv 0) (pa_cons (pv 1) (pa_cons (pv 2) (pa_cons (pv 5) (pa_cons (pe_op op_fdiv (pv 6) (pe_const T.g_PRIME)) (pa_cons (pe_op op_mod (pv 6) (pe_const T.g_PRIME)) (StX.pa_star (pv 4) pa_nil)))))))))
      (pss_one (ps_ret (pe_lst (StX.pa_star (pv 7) (StX.pa_star (pe_call (ok_check_words T) (hr.mono (by decide)) rfl T.g_check_words T.F_check_words.kp T.d_check_words .nil pass0 (pa_cons (pv 7) pa_nil)) pa_nil)))))))))), ?_⟩
    refine ⟨_, rfl, st, _, rfl, hT, rfl, _, _, rfl, _, _, rfl, rfl, ?_⟩
    refine ⟨_, rfl, _, rfl, _, rfl, k, d, r, rfl, fun hp => ⟨true, rfl, iteF ?_⟩, fun hn => ⟨false, rfl, iteT (kE (.inl hn) _ (Same.refl _))⟩⟩
    have bad : ¬ Stp e s' → E (.ref a.c_InvalidArgument) none H := fun z => kE (.inr (.inl z)) _ (Same.refl _)
    refine ⟨_, rfl, _, _, rfl, rfl, _, rfl, ite2 (fun a1 => ⟨_, _, rfl, rfl, _, rfl, ite2 (fun z => bad fun y => ?_) (fun z => ?_)⟩) (fun a1 => ⟨_, rfl, iteT (bad fun y => a1 (decide_eq_true y.1.1))⟩)⟩
    · rw [decide_eq_true y.1.2] at z
      cases z
    refine ⟨_, rfl, _, _, rfl, rfl, _, rfl, ite2 (fun b1 => ?_) (fun b1 => ⟨_, rfl, iteT (bad fun y => b1 (decide_eq_true y.2.1))⟩)⟩
    refine ⟨_, _, rfl, rfl, .inl ⟨by decide, by decide⟩, _, _, rfl, rfl, _, rfl, ite2 (fun z => bad fun y => ?_) (fun z2 => ?_)⟩
    · rw [decide_eq_true (show s' < 65521 * 65521 from y.2.2)] at z
      cases z
    have hs : Stp e s' := by
      have a1 := of_decide_eq_true a1
      have b1 := of_decide_eq_true b1
      have a2 : e < 65521 := Classical.byContradiction fun q => z (by rw [decide_eq_false q]; rfl)
      have b2 : s' < 65521 * 65521 := Classical.byContradiction fun q => z2 (by rw [decide_eq_false q]; rfl)
      exact ⟨⟨a1, a2⟩, ⟨b1, b2⟩⟩
    refine ⟨_, rfl, pl, _, rfl, .inl hS, _, _, rfl, rfl, _, rfl, ite2 (fun z => kE (.inr (.inr ?_)) _ (Same.refl _)) (fun z => ?_)⟩
    · have := of_decide_eq_true z
      rw [List.length_map] at this
      omega
    have hl : ws.length ≤ 1000 := Classical.byContradiction fun q => z (decide_eq_true (by rw [List.length_map]; omega))
    have good : ¬ BadSeal k d r e s' ws := by
      rintro (q | q | q)
      · exact q hp
      · exact q hs
      · omega
    refine ⟨_, rfl, _, rfl, _, rfl, _, rfl, _, rfl, _, _, rfl, rfl, ⟨by decide, by decide⟩, _, rfl, _, _, rfl, rfl, (by show (0 : Int) < 65521; decide), ?_⟩
    refine ⟨_, rfl, pl, _, rfl, .inr hS, Nat.le_of_lt (small _ (by simp; omega)), fun q2 n2 => ?_⟩
    have ew : V.int k :: V.int d :: V.int r :: V.int e :: V.int (s' / 65521) :: V.int (s' % 65521) :: (ws.map V.int ++ []) = (hdM k d r e s' ws).map V.int := by unfold hdM; rw [List.map_append, List.append_nil]; rfl
    dsimp only
    rw [ew]
    have dW : upd H q2 (.lst ((hdM k d r e s' ws).map V.int)) q2 = some (.lst ((hdM k d r e s' ws).map V.int)) := upd_same
    have S2 := Same.new (o := .lst ((hdM k d r e s' ws).map V.int)) n2
    have hlW := hdM_length k d r e s' ws
    generalize hG : hdM k d r e s' ws = W at dW hlW S2 ⊢
    generalize upd H q2 (.lst (W.map V.int)) = H2 at dW S2 ⊢
    refine ⟨_, rfl, q2, _, rfl, .inr (SqL.of dW), _, rfl, q2, W, rfl, SqL.of dW, by omega, fun C H3 s3 nC hC => ⟨C, _, rfl, .inl (SqT.of hC), Nat.le_of_lt (small _ (by simp; omega)), fun q4 n4 => ?_⟩⟩
    have n0 : H q4 = none := same_none (S2.trans s3) n4
    refine kQ good q4 _ ((S2.trans s3).trans (Same.new n4)) n0 ?_
    rw [upd_same]
    unfold sealM
    rw [hG, List.map_append]
    rfl
theorem sc_is_whole : FnScope ["sector"] ["sector"] (defScope s_is_whole) := ⟨rfl, rfl, rfl, by decide +kernel, rfl, by decide +kernel, by decide +kernel⟩
theorem ok_is_whole (T : Txt w K mg a) : FnOk P w K mg base CX0 2 a.f_is_whole a.d_is_whole ["sector"] (sp_is_whole K a) := by
  refine T.F_is_whole.ok sc_is_whole (fun vs H Q E h => ?len) (fun cdv A outer s H vs Q E hr h => ?body)
  case len =>
    exact sp_is_whole_len h
  case body =>
    exact h.2.elim
theorem sc_data_pieces : FnScope ["words", "data", "size", "filled", "j"] ["words", "data"] (defScope s_data_pieces) := ⟨rfl, rfl, rfl, by decide +kernel, rfl, by decide +kernel, by decide +kernel⟩
theorem ok_data_pieces (T : Txt w K mg a) : FnOk P w K mg base CX0 2 a.f_data_pieces a.d_data_pieces ["words", "data"] (sp_data_pieces K a) := by
  refine T.F_data_pieces.ok sc_data_pieces (fun vs H Q E h => ?len) (fun cdv A outer s H vs Q E hr h => ?body)
  case len =>
    exact sp_data_pieces_len h
  case body =>
    obtain ⟨W, ws, d, rfl, hS, hlen, d1, d8, k⟩ := h
    refine ⟨_, (pss_cons (ps_set (i := 2) sc_data_pieces.nd rfl (Or.inr rfl) (pe_call (ok_piece_size T) (hr.mono (by decide)) rfl T.g_piece_size T.F_piece_size.kp T.d_piece_size .nil pass0 (pa_cons (pe_callB call_len_seq (by rfl) T.n_len PySem.boot_len (pa_cons (pv 0) pa_nil)) (pa_cons (pv 1) pa_nil))))
      (pss_cons (ps_set (i := 3) sc_data_pieces.nd rfl (Or.inr rfl) (pe_lst (StX.pa_star (pv 0) (StX.pa_star (pe_op op_rep (pe_lst (pa_cons pe_int pa_nil)) (pe_op op_sub (pe_op op_mul (pv 2) (pv 1)) (pe_callB call_len_seq (by rfl) T.n_len PySem.boot_len (pa_cons (pv 0) pa_nil)))) pa_nil))))
      (pss_one (ps_ret (pe_lc (own := [("j", 4)]) (g := (gName 4)) (by rfl) sc_data_pieces.nd (pi_range1 (by rfl) T.n_range (pa_cons (pv 1) pa_nil)) (blkOk_by (own := [("j", 4)]) (N := ["words", "data", "size", "filled", "j"]) (sc := defScope s_data_pieces) (by decide +kernel))
      (fun _ _ _ _ _ => (pg_name (i := 4) sc_data_pieces.nd rfl (Or.inl rfl))) (fun _ _ _ _ _ => pts_nil) (fun _ _ _ _ _ => (pe_slice (by exact sl_list : SlR _ (rSlL K)) (pv 3) (po_some (pe_op op_mul (pv 4) (pv 2))) (po_some (pe_op op_mul (pe_op op_add (pv 4) pe_int) (pv 2)))))))))), ?_⟩
    refine ⟨_, rfl, W, _, rfl, .inl hS, _, rfl, ws.length, d, by rw [List.length_map]; rfl, d1, by omega, ?_⟩
    have szl := size_lt ws.length d d1
    have sle := size_le ws.length d d1
    have fl := fill_len ws d d1
    have hb8 : sizeM ws.length d * d ≤ sizeM ws.length d * 8 := Nat.mul_le_mul_left _ d8
    generalize hsz : sizeM ws.length d = sz at szl sle fl hb8 ⊢
    refine ⟨_, rfl, W, _, rfl, .inr hS, ?_⟩
    refine ⟨(by show 1 ≤ sizeLine; decide), fun q nq => ?_⟩
    have sq := Same.new (o := .lst [V.int 0]) nq
    refine ⟨_, rfl, _, rfl, _, _, rfl, rfl, .inl ⟨by omega, by omega⟩, _, rfl, W, _, rfl, .inl (sq.seq hS), _, _, rfl, rfl, q, ((sz * d - ws.length : Nat) : Int), _, rfl, congrArg V.int (by rw [List.length_map]; omega), upd_same, by omega, by omega, ?_, fun q2 n2 => ?_⟩
    · rw [Int.toNat_natCast]
      exact Nat.le_of_lt (small _ (by simp; omega))
    rw [Int.toNat_natCast, rep_zero]
    have s2 := sq.trans (Same.new (o := .lst ((List.replicate (sz * d - ws.length) (0 : Int)).map V.int)) n2)
    refine ⟨q2, _, rfl, .inr (SqL.of upd_same), ?_, fun q3 n3 => ?_⟩
    · exact Nat.le_of_lt (small _ (by simp; omega))
    have eW : ws.map V.int ++ ((List.replicate (sz * d - ws.length) (0 : Int)).map V.int ++ []) = (fillM ws d).map V.int := by unfold fillM; rw [hsz, List.map_append, List.append_nil]
    rw [eW]
    have s3 := s2.trans (Same.new (o := .lst ((fillM ws d).map V.int)) n3)
    have dF : upd (upd (upd H q (.lst [V.int 0])) q2 (.lst ((List.replicate (sz * d - ws.length) (0 : Int)).map V.int))) q3 (.lst ((fillM ws d).map V.int)) q3 = some (.lst ((fillM ws d).map V.int)) := upd_same
    generalize upd (upd (upd H q (.lst [V.int 0])) q2 (.lst ((List.replicate (sz * d - ws.length) (0 : Int)).map V.int))) q3 (.lst ((fillM ws d).map V.int)) = H3 at s3 dF ⊢
    have cl := cuts_len ws d
    refine ⟨_, rfl, _, rfl, by omega, by omega, fun D nD => ?_⟩
    rw [Int.toNat_natCast]
    refine lc_it walk_range (fun i H' => ∃ F : List (Addr × List Int), Same H3 H' ∧ LA H' D F ∧ snds F = (cutsM ws d).take i) ⟨[], Same.new nD, ⟨upd_same, fun _ m => nomatch m⟩, rfl⟩ (fun _ _ _ _ => True.intro) ?_ ?_
    · rintro i y H4 H5 hi ⟨F, s4, LF, eF⟩ ⟨rfl, rfl⟩
      have hlt : (i + 1) * sz ≤ sz * 8 := by rw [Nat.mul_comm]; exact Nat.mul_le_mul_left _ (by omega)
      have hlt2 : i * sz ≤ (i + 1) * sz := Nat.mul_le_mul_right _ (by omega)
      refine ⟨rfl, _, rfl, _, rfl, _, rfl, _, _, rfl, rfl, .inl ⟨by omega, by omega⟩, _, rfl, _, rfl, _, _, rfl, rfl, _, rfl, _, _, rfl, rfl, .inl ⟨by omega, by omega⟩, _, rfl, q3, _, rfl, SqL.of (s4 _ _ dF), fun C nC => ?_⟩
      rw [show (0 : Int) + (i : Nat) = (i : Int) by omega, show ((i : Int) + 1) * (sz : Int) = (((i + 1) * sz : Nat) : Int) by push_cast; rfl, show (i : Int) * (sz : Int) = ((i * sz : Nat) : Int) by push_cast; rfl, cut_ints]
      have er : ((fillM ws d).drop (i * sz)).take ((i + 1) * sz - i * sz) = (cutsM ws d).getD i [] := by
        have q : (cutsM ws d)[i]? = some (((fillM ws d).drop (i * sz)).take sz) := by unfold cutsM; rw [List.getElem?_map, List.getElem?_range hi, hsz]; rfl
        rw [getD_item q, show (i + 1) * sz - i * sz = sz by rw [Nat.succ_mul]; omega]
      rw [er]
      have gi : (cutsM ws d)[i]? = some ((cutsM ws d).getD i []) := by rw [List.getD_eq_getElem?_getD, List.getElem?_eq_getElem (by omega)]; rfl
      generalize (cutsM ws d).getD i [] = row at gi ⊢
      have sC := Same.new (o := .lst (row.map V.int)) nC
      have LC := LF.same sC
      have nCD : C ≠ D := (ne_of_none LF.1 nC).symm
      have lF : F.length ≤ i := by
        have := congrArg List.length eF
        rw [snds_len, List.length_take] at this
        omega
      refine ⟨_, LC.1, small _ (by rw [refs_len]; omega), F ++ [(C, row)], same_put (s4.trans sC) nD, ?_, ?_⟩
      · rw [show refs F ++ [V.ref C] = refs (F ++ [(C, row)]) by unfold refs; rw [List.map_append]; rfl]
        refine LA.put fun e' me => ?_
        rcases List.mem_append.mp me with me | me
        · exact LC.2 e' me
        · have : e' = (C, row) := by simpa using me
          subst this
          exact ⟨upd_same, nCD⟩
      · rw [take_snoc gi, ← eF, snds, List.map_append]
        rfl
    rintro H4 ⟨F, s4, LF, eF⟩
    rw [List.take_of_length_le (by omega)] at eF
    exact k D F H4 (s3.trans s4) (same_none s3 nD) LF eF
theorem sc_Store_drop_member : FnScope ["self", "disk", "member"] ["self", "disk"] (defScope s_Store_drop_member) := ⟨rfl, rfl, rfl, by decide +kernel, rfl, by decide +kernel, by decide +kernel⟩
theorem ok_Store_drop_member (T : Txt w K mg a) : FnOk P w K mg base (L2.CX P w) 2 a.f_Store_drop_member a.d_Store_drop_member ["self", "disk"] (sp_Store_drop_member K a) := by
  refine T.F_Store_drop_member.okX sc_Store_drop_member (fun vs H Q E h => ?len) (fun cdv A outer s H vs Q E hr h => ?body)
  case len =>
    exact sp_Store_drop_member_len h
  case body =>
    obtain ⟨S, m, d, rfl, h, d0, d8, l8, r18, r78, kE, kQ⟩ := h
    have hw := T.hw
    subst hw
    refine ⟨_, (pss_cons (ps_if (pt_cmp (pc_dnotin (hu_of hr) (pv 1) (pe_fld (pv 0) rfl)))
      (pss_one (ps_raise rfl (takes_of rfl rfl rfl rfl) (pmk_own PySem.F.excBase_ValueError T.x_InvalidArgument T.g_InvalidArgument T.k_InvalidArgument (raises_own T.b_InvalidArgument T.t_InvalidArgument) (by exact rfl))))
      pss_nil)
      (pss_cons (ps_if (PW.pt (pw_or (pt_truth (pe_meth0 (pe_dget (hu_of hr) (pe_fld (pv 0) rfl) (pv 1) (fun _ _ => rfl)) T.cl_Space T.m_Space_used_rows (ok_Space_used_rows T) (hr.mono (by decide)) T.d_Space_used_rows .nil pass0) (by intro _; rfl)) (pw_or1 (pt_truth (pe_meth0 (pe_dget (hu_of hr) (pe_fld (pv 0) rfl) (pv 1) (fun _ _ => rfl)) T.cl_Space T.m_Space_waiting_rows (ok_Space_waiting_rows T) (hr.mono (by decide)) T.d_Space_waiting_rows .nil pass0) (by intro _; rfl)))))
      (pss_one (ps_raise rfl (takes_of rfl rfl rfl rfl) (pmk_own PySem.F.excBase_ValueError T.x_InvalidArgument T.g_InvalidArgument T.k_InvalidArgument (raises_own T.b_InvalidArgument T.t_InvalidArgument) (by exact rfl))))
      pss_nil)
      (pss_cons (ps_fld (pv 0) (pe_lc (own := [("member", 2)]) (g := (gName 2)) (by rfl) sc_Store_drop_member.nd (pi_list (pe_fld (pv 0) rfl)) (blkOk_by (own := [("member", 2)]) (N := ["self", "disk", "member"]) (sc := defScope s_Store_drop_member) (by decide +kernel))
      (fun _ _ _ _ _ => (pg_name (i := 2) sc_Store_drop_member.nd rfl (Or.inl rfl))) (fun _ _ _ _ _ => (pts_one (pt_cmpR op_ne (pv 2) (pv 1) (nomark _)))) (fun _ _ _ _ _ => (pv 2))) rfl)
      (pss_one (ps_ddel (pe_fld (pv 0) rfl) (pv 1)))))), ?_⟩
    by_cases md : d ∈ m.ms
    rotate_left
    · have no : d ∉ m.od := fun z => md (h.op.mem_iff.mp z)
      have dg : DGet H m.spd (.int d) none := by
        have := DGet.k (k := Sum.inl d) h.hs
        rw [val_no (f := fun d => (m.sp d).1) no] at this
        exact this
      exact ⟨_, rfl, _, rfl, S, _, m.dx, _, _, rfl, h.hS, T.cl_Store, T.na_Store_spaces, sf_spaces m, m.spd, _, rfl, dg, _, rfl, iteT (kE (.inl md) _ (Same.refl _))⟩
    obtain ⟨dx', low, M, e1, _⟩ := id (h.sp d md)
    refine ⟨_, rfl, _, rfl, S, _, m.dx, _, _, rfl, h.hS, T.cl_Store, T.na_Store_spaces, sf_spaces m, m.spd, _, rfl, h.spget md, _, rfl, iteF ?_⟩
    refine ⟨_, rfl, S, _, m.dx, _, _, rfl, h.hS, T.cl_Store, T.na_Store_spaces, sf_spaces m, _, rfl, m.spd, _, rfl, h.spget md, (m.sp d).1, dx', _, rfl, e1, rfl, (m.sp d).1, (m.sp d).2, 18, m.rows, _, rfl, h.sp d md, by omega, fun D H2 s2 nD dD => ?_⟩
    rw [pick_used] at dD
    by_cases u : usedM m d = 0
    rotate_left
    · refine ⟨_, .inl ⟨_, SqL.of dD, rfl⟩, ?_⟩
      have : ((pickL 18 m.rows (phiM m.bl d) fun s => decide (s ≠ 0)).map V.int).isEmpty = false := by
        unfold usedM at u
        cases z : pickL 18 m.rows (phiM m.bl d) fun s => decide (s ≠ 0) with
        | nil => rw [z] at u; exact absurd rfl u
        | cons x r => rfl
      rw [this]
      exact iteT (iteT (kE (.inr u) _ s2))
    have e0 : (pickL 18 m.rows (phiM m.bl d) fun s => decide (s ≠ 0)) = [] := List.length_eq_zero_iff.mp u
    rw [e0] at dD
    refine ⟨false, .inl ⟨_, SqL.of dD, rfl⟩, iteF ?_⟩
    have h2 := h.same s2
    refine ⟨_, rfl, S, _, m.dx, _, _, rfl, h2.hS, T.cl_Store, T.na_Store_spaces, sf_spaces m, _, rfl, m.spd, _, rfl, h2.spget md, (m.sp d).1, dx', _, rfl, s2 _ _ e1, rfl, (m.sp d).1, (m.sp d).2, 18, m.rows, _, rfl, h2.sp d md, by omega, fun D3 H3 s3 nD3 dD3 => ?_⟩
    rw [pick_none] at dD3
    refine ⟨false, .inl ⟨_, SqL.of dD3, rfl⟩, iteF ?_⟩
    have sX := s2.trans s3
    have h3 := h.same sX
    clear dD dD3 nD nD3 h2 s2 s3
    -- members
    refine ⟨_, rfl, S, _, m.dx, _, _, rfl, h3.hS, T.cl_Store, T.na_Store_members, sf_members m, m.mL, rfl, ⟨_, SqL.of h3.hm⟩, fun M nM => lc_list (K := K) (a := m.mL) (xs := m.ms.map V.int) (fun i H' => Same H3 H' ∧ H' M = some (.lst (((m.ms.take i).filter fun x => decide (x ≠ d)).map V.int))) ⟨Same.new nM, upd_same⟩ (fun i H' _ q => SqL.of (q.1 _ _ h3.hm)) ?_ ?_⟩
    · rintro i y H4 hy ⟨s4, d4⟩
      obtain ⟨x, hx, rfl⟩ := int_item hy
      have il := item_lt hx
      have lt := List.length_filter_le (fun x => decide (x ≠ d)) (m.ms.take i)
      rw [List.length_take] at lt
      refine ⟨rfl, _, rfl, _, rfl, rfl, _, rfl, ?_⟩
      rw [take_snoc hx, List.filter_append]
      by_cases c : x = d
      · rw [decide_eq_true (show V.int x = V.int d by rw [c])]
        refine iteF ⟨s4, ?_⟩
        rw [show List.filter (fun x => decide (x ≠ d)) [x] = [] by rw [List.filter_cons, if_neg (by simpa using c)]; rfl, List.append_nil]
        exact d4
      · rw [decide_eq_false (show ¬ V.int x = V.int d from fun z => c (V.int.inj z))]
        refine iteT ⟨_, rfl, _, d4, small _ (by rw [List.length_map]; omega), same_put s4 nM, ?_⟩
        rw [upd_same, show List.filter (fun x => decide (x ≠ d)) [x] = [x] by rw [List.filter_cons, if_pos (by simpa using c)]; rfl, List.map_append]
        rfl
    rintro H4 ⟨s4, dM⟩
    rw [List.length_map, List.take_length] at dM
    have nM0 := same_none sX nM
    have s5 := sX.trans s4
    have MS : M ≠ S := (ne_of_none h.hS nM0).symm
    refine ⟨_, rfl, S, _, m.dx, _, rfl, s5 _ _ h.hS, T.cl_Store, T.na_Store_members, (by show 10 < 1000; decide), ?_⟩
    obtain ⟨m1, hm1⟩ : ∃ m1 : SM, m1 = { m with mL := M } := ⟨_, rfl⟩
    have e5 : putF "members" (.ref M) (sflds m) = sflds m1 := by
      rw [hm1]
      exact sf_set_members m M
    rw [e5]
    have k6 : ∀ x o, H x = some o → x ≠ S → upd H4 S (.ins a.c_Store m.dx (sflds m1)) x = some o := fun x o e n => by
      rw [upd_ne n]
      exact s5 _ _ e
    have hS6 : upd H4 S (.ins a.c_Store m.dx (sflds m1)) S = some (.ins a.c_Store m.dx (sflds m1)) := upd_same
    have dM6 : upd H4 S (.ins a.c_Store m.dx (sflds m1)) M = some (.lst ((m.ms.filter fun x => decide (x ≠ d)).map V.int)) := by rw [upd_ne MS]; exact dM
    generalize upd H4 S (.ins a.c_Store m.dx (sflds m1)) = H6 at k6 hS6 dM6 ⊢
    have pS : m.spd ≠ S := ne_of h.hs h.hS (by intro z; cases z)
    refine ⟨_, rfl, S, _, m.dx, _, _, rfl, hS6, T.cl_Store, T.na_Store_spaces, (by rw [sf_spaces m1, hm1]), _, rfl, m.spd, _, Sum.inl d, rfl, k6 _ _ h.hs pS, rfl, by rw [val_sp (f := fun d => (m.sp d).1) (h.op.mem_iff.mpr md)]; rfl, ?_⟩
    show Q V.non (upd H6 m.spd (.dK (dropK (m.od.map fun x => ((Sum.inl x : Key), V.ref (m.sp x).1)) (Sum.inl d))))
    rw [drop_sp (f := fun x => (m.sp x).1)]
    have kx : ∀ x o, H x = some o → (∀ q fs, o = .ins a.c_Store q fs → fs.length = 10 → False) → (∀ L, o = .dK L → x ≠ m.spd) → upd H6 m.spd (.dK ((m.od.filter fun x => decide (x ≠ d)).map fun x => ((Sum.inl x : Key), V.ref (m.sp x).1))) x = some o := fun x o e n1 n2 => by
      have n : x ≠ m.spd := by
        intro z
        rw [z, h.hs] at e
        exact n2 _ (Option.some.inj e).symm z
      rw [upd_ne n]
      exact k6 x o e (ne_of e h.hS fun z => n1 _ _ z rfl)
    have nt : ∀ {o : HO}, (∀ q fs, o ≠ .ins a.c_Store q fs) → (∀ q fs, o = .ins a.c_Store q fs → fs.length = 10 → False) := fun n q fs z _ => n q fs z
    have fr : ∀ x o, H x = some o → ¬ StR S m x → upd H6 m.spd (.dK ((m.od.filter fun x => decide (x ≠ d)).map fun x => ((Sum.inl x : Key), V.ref (m.sp x).1))) x = some o := fun x o e n => by
      rw [upd_ne fun z => n (by rw [z]; exact .spd)]
      exact k6 x o e fun z => n (by rw [z]; exact .s)
    have sub : ∀ x ∈ m.ms.filter (fun x => decide (x ≠ d)), x ∈ m.ms := fun x mx => (List.mem_filter.mp mx).1
    refine kQ md u { m with mL := M, ms := m.ms.filter fun x => decide (x ≠ d), od := m.od.filter fun x => decide (x ≠ d) } _ ⟨?_, ?_, upd_same, fun x mx => ?_, fun x mx y my z => h.su x (sub x mx) y (sub y my) z, kx _ _ h.hb (nt fun q fs z => nomatch z) (fun kv z => nomatch z), kx _ _ h.hM (nt fun q fs z => nomatch z) (fun kv z => nomatch z), h.bm, fun b mb => ?_, h.nd.sublist List.filter_sublist, fun x mx => h.m0 x (sub x mx), h.ser, h.un, fun b mb q mq => ⟨List.mem_filter.mpr ⟨(h.row b mb q mq).1, decide_eq_true (h.idle u mb mq)⟩, (h.row b mb q mq).2⟩, h.dis, h.asc, h.op.filter _⟩ ⟨rfl, rfl, rfl, rfl, rfl, rfl⟩ rfl rfl fr fun x r => ?_
    · rw [upd_ne pS.symm, hS6, hm1]
      rfl
    · rw [upd_ne (ne_of_none h.hs nM0).symm]
      exact dM6
    · show SpD a _ (m.sp x).1 (m.sp x).2 18 m.rows (phiM m.bl x)
      obtain ⟨dx2, low2, M2, g1, g2, g3⟩ := h.sp x (sub x mx)
      refine ⟨dx2, low2, M2, kx _ _ g1 (fun q fs z l => ?_) (fun kv z => nomatch z), kx _ _ g2 (nt fun q fs z => nomatch z) (fun L z c => ?_), g3⟩
      · injection z with _ _ z
        rw [← z] at l
        exact absurd l (by show ¬ 4 = 10; decide)
      · rw [c, h.hs] at g2
        have z := HO.dK.inj (Option.some.inj g2)
        have m1 : ((Sum.inl d : Key), V.ref (m.sp d).1) ∈ kvM M2 := by
          rw [← z]
          exact List.mem_map.mpr ⟨d, h.op.mem_iff.mpr md, rfl⟩
        obtain ⟨q, _, eq⟩ := List.mem_map.mp m1
        cases eq
    · have hb := h.blk b mb
      exact ⟨kx _ _ hb.t (nt fun q fs z => nomatch z) (fun kv z => nomatch z), kx _ _ hb.pt (nt fun q fs z => nomatch z) (fun kv z => nomatch z), fun e me => kx _ _ (hb.q e me) (nt fun q fs z => nomatch z) (fun kv z => nomatch z), fun z => kx _ _ (hb.w z) (nt fun q fs z => nomatch z) (fun kv z => nomatch z)⟩
    · cases r with
      | s => exact .inl .s
      | ml => exact .inr nM0
      | spd => exact .inl .spd
      | bd => exact .inl .bd
      | md => exact .inl .md
      | s1 y my => exact .inl (.s1 y (sub y my))
      | s2 y my => exact .inl (.s2 y (sub y my))
      | t b mb => exact .inl (.t b mb)
      | pt b mb => exact .inl (.pt b mb)
      | w b mb z => exact .inl (.w b mb z)
      | q b e mb me => exact .inl (.q b e mb me)
theorem sc_Store_free_counts : FnScope ["self", "disk"] ["self"] (defScope s_Store_free_counts) := ⟨rfl, rfl, rfl, by decide +kernel, rfl, by decide +kernel, by decide +kernel⟩
theorem ok_Store_free_counts (T : Txt w K mg a) : FnOk P w K mg base CX0 2 a.f_Store_free_counts a.d_Store_free_counts ["self"] (sp_Store_free_counts K a) := by
  refine T.F_Store_free_counts.ok sc_Store_free_counts (fun vs H Q E h => ?len) (fun cdv A outer s H vs Q E hr h => ?body)
  case len =>
    exact sp_Store_free_counts_len h
  case body =>
    obtain ⟨S, m, rfl, h, l8, k⟩ := h
    refine ⟨_, (pss_one (ps_ret (pe_lc (own := [("disk", 1)]) (g := (gName 1)) (by rfl) sc_Store_free_counts.nd (pi_list (pe_fld (pv 0) rfl)) (blkOk_by (own := [("disk", 1)]) (N := ["self", "disk"]) (sc := defScope s_Store_free_counts) (by decide +kernel))
      (fun _ _ _ _ _ => (pg_name (i := 1) sc_Store_free_counts.nd rfl (Or.inl rfl))) (fun _ _ _ _ _ => pts_nil) (fun _ _ _ _ _ => (pe_tup (pa_cons (pv 1) (pa_cons (pe_meth0 (pe_dget (hu_of hr) (by exact (pe_fld (pv 0) rfl) : PE _ _ (tFld K _ _)) (pv 1) (fun _ _ => rfl)) T.cl_Space T.m_Space_free_count (ok_Space_free_count T) (hr.mono (by decide)) T.d_Space_free_count .nil pass0) pa_nil))))))), ?_⟩
    refine ⟨_, rfl, S, _, m.dx, _, _, rfl, h.hS, T.cl_Store, T.na_Store_members, sf_members m, m.mL, rfl, ⟨_, SqL.of h.hm⟩, fun D nD => lc_list (K := K) (a := m.mL) (xs := m.ms.map V.int) (fun i H' => Same H H' ∧ ∃ L : List (Addr × Int × Int), H' D = some (.lst (L.map fun e => V.ref e.1)) ∧ L.length = i ∧ (∀ e ∈ L, H' e.1 = some (.tup [.int e.2.1, .int e.2.2])) ∧ L.map (·.2) = (m.ms.take i).map (fun d => (d, (m.rows : Int) - (18 : Nat) - (usedM m d : Nat)))) ⟨Same.new nD, [], upd_same, rfl, fun _ m => (nomatch m), rfl⟩ (fun i H' _ q => q.1.seq (SqL.of h.hm)) ?_ ?_⟩
    · rintro i y H1 hy ⟨s1, L, d1, lL, hL, eL⟩
      obtain ⟨d, hd, rfl⟩ := int_item hy
      have md := List.mem_of_getElem? hd
      have st := h.same s1
      obtain ⟨dx, low, M, e1, _⟩ := id (st.sp d md)
      have lM : i ≤ 8 := by have := item_lt hd; omega
      refine ⟨rfl, _, rfl, _, rfl, S, _, m.dx, _, _, rfl, st.hS, T.cl_Store, T.na_Store_spaces, sf_spaces m, _, rfl, m.spd, _, rfl, st.spget md, (m.sp d).1, dx, _, rfl, e1, rfl, (m.sp d).1, (m.sp d).2, 18, m.rows, phiM m.bl d, rfl, st.sp d md, by show 2 ≤ sizeLine; decide, fun t nt => ?_⟩
      have eu : (pickL 18 m.rows (phiM m.bl d) fun s => decide (s ≠ 0)).length = usedM m d := rfl
      rw [eu]
      have sT := Same.new (o := .tup [V.int d, V.int ((m.rows : Int) - (18 : Nat) - (usedM m d : Nat))]) nt
      have dT : upd H1 t (.tup [V.int d, V.int ((m.rows : Int) - (18 : Nat) - (usedM m d : Nat))]) t = some (.tup [.int d, .int ((m.rows : Int) - (18 : Nat) - (usedM m d : Nat))]) := upd_same
      generalize upd H1 t (.tup [V.int d, V.int ((m.rows : Int) - (18 : Nat) - (usedM m d : Nat))]) = H2 at sT dT ⊢
      have tD : t ≠ D := (ne_of_none d1 nt).symm
      refine ⟨_, sT _ _ d1, small _ (by rw [List.length_map, lL]; omega), same_put (s1.trans sT) nD, L ++ [(t, d, (m.rows : Int) - (18 : Nat) - (usedM m d : Nat))], by rw [upd_same, List.map_append]; rfl, by rw [List.length_append, lL]; rfl, fun e me => ?_, by rw [List.map_append, eL, take_snoc hd, List.map_append]; rfl⟩
      rcases List.mem_append.mp me with me | me
      · rw [upd_ne (ne_of (hL e me) d1 (by intro z; cases z))]
        exact sT _ _ (hL e me)
      · rw [List.mem_singleton.mp me, upd_ne tD]
        exact dT
    rintro H1 ⟨s1, L, d1, lL, hL, eL⟩
    rw [List.length_map, List.take_length] at eL
    exact k D L H1 s1 nD d1 hL eL
theorem sc_weights : FnScope ["places", "x", "at", "place"] ["places", "x"] (defScope s_weights) := ⟨rfl, rfl, rfl, by decide +kernel, rfl, by decide +kernel, by decide +kernel⟩
theorem ok_weights (T : Txt w K mg a) : FnOk P w K mg base CX0 3 a.f_weights a.d_weights ["places", "x"] (sp_weights K a) := by
  refine T.F_weights.ok sc_weights (fun vs H Q E h => ?len) (fun cdv A outer s H vs Q E hr h => ?body)
  case len =>
    exact sp_weights_len h
  case body =>
    obtain ⟨l, ws, x, rfl, hW, hap, hlen, k⟩ := h
    refine ⟨_, (pss_one (ps_ret (pe_lc (own := [("at", 2), ("place", 3)]) (g := (gTup K 2 (gCons (gName 2) (gCons (gName 3) gNil)))) (by rfl) sc_weights.nd (pi_enum (by rfl) T.n_enumerate (pa_cons (pv 0) pa_nil)) (blkOk_by (own := [("at", 2), ("place", 3)]) (N := ["places", "x", "at", "place"]) (sc := defScope s_weights) (by decide +kernel))
      (fun _ _ _ _ _ => (pg_tup rfl (pgs_cons (pg_name (i := 2) sc_weights.nd rfl (Or.inl rfl)) (pgs_cons (pg_name (i := 3) sc_weights.nd rfl (Or.inl rfl)) pgs_nil)))) (fun _ _ _ _ _ => pts_nil) (fun _ _ _ _ _ => (pe_call (ok_weight T) (hr.mono (by decide)) rfl T.g_weight T.F_weight.kp T.d_weight .nil pass0 (pa_cons (pv 3) (pa_cons (pe_op op_cat (pe_slice (by exact sl_list : SlR _ (rSlL K)) (pv 0) po_none (po_some (pv 2))) (pe_slice (by exact sl_list : SlR _ (rSlL K)) (pv 0) (po_some (pe_op op_add (pv 2) pe_int)) po_none)) (pa_cons (pv 1) pa_nil)))))))), ?_⟩
    have hS : SqL K H l (ws.map V.int) := SqL.of hW
    refine ⟨_, rfl, l, _, rfl, hS, fun D new => lc_it walk_enum (fun i H' => Same H H' ∧ H' D = some (.lst (((weightsM ws x).take i).map V.int))) ⟨Same.new new, upd_same⟩ (fun i H' _ q => q.1.seq hS) ?_ ?_⟩
    · rintro i y H1 H2 hi ⟨s1, hD⟩ ⟨t, u, v, rfl, ht, rfl, hu, hv⟩
      cases hu
      obtain ⟨c, hc, rfl⟩ := int_item hv
      have s2 : Same H1 (upd H1 t (.tup [V.int (i : Nat), V.int c])) := Same.new ht
      have s3 := s1.trans s2
      have w3 := s3 _ _ hW
      refine ⟨t, _, rfl, SqT.of upd_same, rfl, _, _, rfl, _, _, rfl, rfl, ?_⟩
      refine ⟨rfl, _, rfl, _, rfl, _, rfl, _, rfl, l, _, rfl, SqL.of w3, fun p1 n1 => ?_⟩
      have s4 := Same.new (o := .lst (cutV (ws.map V.int) none (some ((i : Nat) : Int)))) n1
      refine ⟨_, rfl, _, rfl, _, _, rfl, rfl, _, rfl, l, _, rfl, SqL.of (s4 _ _ w3), fun p2 n2 => ?_⟩
      have s5 := Same.new (o := .lst (cutV (ws.map V.int) (some (((i : Nat) : Int) + 1)) none)) n2
      have q1 := s5 _ _ (upd_same (H := upd H1 t (.tup [V.int (i : Nat), V.int c])) (a := p1) (o := .lst (cutV (ws.map V.int) none (some ((i : Nat) : Int)))))
      refine ⟨p1, p2, _, _, rfl, rfl, q1, upd_same, ?_, fun p3 n3 => ?_⟩
      · have a1 := cutV_length (ws.map V.int) none (some ((i : Nat) : Int))
        have a2 := cutV_length (ws.map V.int) (some (((i : Nat) : Int) + 1)) none
        rw [List.length_map] at a1 a2
        exact Nat.le_of_lt (small _ (by omega))
      · have eo : cutV (ws.map V.int) none (some ((i : Nat) : Int)) ++ cutV (ws.map V.int) (some (((i : Nat) : Int) + 1)) none = (others ws i).map V.int := by
          rw [cut_take, show (((i : Nat) : Int) + 1) = ((i + 1 : Nat) : Int) from rfl, cut_drop]
          simp [others, List.map_append, List.map_take, List.map_drop]
        rw [eo]
        have s6 := Same.new (o := .lst ((others ws i).map V.int)) n3
        have hi' : i < ws.length := by simpa using hi
        have gc : ws.getD i 0 = c := getD_item hc
        have ok := wgt_ok (others_apart hap hi')
        rw [gc] at ok
        refine ⟨_, rfl, c, p3, others ws i, x, rfl, SqL.of upd_same, ok, fun H7 s7 => ?_⟩
        have s8 := (((s3.trans s4).trans s5).trans s6).trans s7
        have d8 := s7 _ _ (s6 _ _ (s5 _ _ (s4 _ _ (s2 _ _ hD))))
        refine ⟨_, d8, small _ (by simp; omega), fun b o e => ?_, ?_⟩
        · rw [upd_ne (ne_of_none e new)]
          exact s8 b o e
        · rw [upd_same, take_snoc (weightsM_get hi'), List.map_append, gc]
          rfl
    · rintro H' ⟨s', hD⟩
      rw [List.take_of_length_le (by rw [weightsM_length]; simp)] at hD
      exact k D H' s' new hD
theorem sc_unseal : FnScope ["sector", "kind", "disk", "row", "epoch", "high", "low"] ["sector", "kind", "disk", "row"] (defScope s_unseal) := ⟨rfl, rfl, rfl, by decide +kernel, rfl, by decide +kernel, by decide +kernel⟩
theorem ok_unseal (T : Txt w K mg a) : FnOk P w K mg base CX0 3 a.f_unseal a.d_unseal ["sector", "kind", "disk", "row"] (sp_unseal K a) := by
  refine T.F_unseal.ok sc_unseal (fun vs H Q E h => ?len) (fun cdv A outer s H vs Q E hr h => ?body)
  case len =>
    exact sp_unseal_len h
  case body =>
    exact h.2.elim
theorem sc_piece_requests : FnScope ["images", "places", "stamp", "pieces", "numbers", "requests", "number", "disk", "row"] ["images", "places", "stamp", "pieces", "numbers"] (defScope s_piece_requests) := ⟨rfl, rfl, rfl, by decide +kernel, rfl, by decide +kernel, by decide +kernel⟩
theorem ok_piece_requests (T : Txt w K mg a) : FnOk P w K mg base CX0 3 a.f_piece_requests a.d_piece_requests ["images", "places", "stamp", "pieces", "numbers"] (sp_piece_requests K a) := by
  refine T.F_piece_requests.ok sc_piece_requests (fun vs H Q E h => ?len) (fun cdv A outer s H vs Q E hr h => ?body)
  case len =>
    exact sp_piece_requests_len h
  case body =>
    obtain ⟨I, P, st, R, N, ims, pls, e, s', F, ns, rfl, hI, hl, hP, hpl, hT, hs, hR, hrow, hF, hN, hns, ln, k⟩ := h
    refine ⟨_, (pss_cons (ps_set (i := 5) sc_piece_requests.nd rfl (Or.inl rfl) (pe_lst pa_nil))
      (pss_cons (ps_for PassesOwn.never rfl (pi_list (pv 4)) (pg_name (i := 6) sc_piece_requests.nd rfl (Or.inl rfl))
      (pss_cons (ps_asg (pe_ix ix_tup (pv 1) (pv 6) (fun _ _ => rfl)) (pg_tup rfl (pgs_cons (pg_name (i := 7) sc_piece_requests.nd rfl (Or.inl rfl)) (pgs_cons (pg_name (i := 8) sc_piece_requests.nd rfl (Or.inl rfl)) pgs_nil))))
      (pss_one (ps_if (pt_val (pe_call (ok_is_present T) (hr.mono (by decide)) rfl T.g_is_present T.F_is_present.kp T.d_is_present .nil pass0 (pa_cons (pv 0) (pa_cons (pv 7) pa_nil))))
      (pss_one (ps_expr (pe_bm PySem.F.plainAttrs_list PySem.F.slot_list_append PySem.F.type_list_append mt_append (pv 5) (pa_cons (pe_tup (pa_cons pe_str (pa_cons (pv 7) (pa_cons (pv 8) (pa_cons (pe_call (ok_seal T) (hr.mono (by decide)) rfl T.g_seal T.F_seal.kp T.d_seal .nil passL (pa_cons (pe_const T.g_PIECE) (pa_cons (pv 7) (pa_cons (pv 8) (pa_cons (pv 2) (pa_cons (pe_ix ix_list (pv 3) (pv 6) (fun _ _ => rfl)) pa_nil)))))) pa_nil))))) pa_nil))))
      pss_nil))))
      (pss_one (ps_ret (pv 5))))), ?_⟩
    refine ⟨Nat.zero_le _, fun D nD => ?_⟩
    refine ⟨_, rfl, N, rfl, ⟨_, (Same.new nD).seq hN⟩, for_list (K := K) (a := N) (xs := (ns.map fun (i : Nat) => (i : Int)).map V.int) (fun i σ H' => ∃ (v1 v2 v3 : Option V) (L : List Rq), σ = [some (.ref I), some (.ref P), some (.ref st), some (.ref R), some (.ref N), some (.ref D), v1, v2, v3] ∧ Same H H' ∧ WRq H' D L ∧ L.map rqM = reqM ims pls e s' (snds F) (ns.take i))
      ⟨none, none, none, [], rfl, Same.new nD, ⟨upd_same, fun _ m => nomatch m⟩, rfl⟩ (fun i σ H' _ ⟨_, _, _, _, _, s2, _⟩ => s2.seq hN) ?_ ?_⟩
    · rintro i y σ H' hi ⟨v1, v2, v3, L, rfl, s2, WL, eL⟩
      obtain ⟨c, hc, rfl⟩ := int_item hi
      obtain ⟨n, hn, rfl⟩ : ∃ n : Nat, ns[i]? = some n ∧ c = (n : Int) := by
        rw [List.getElem?_map] at hc
        cases q : ns[i]? with
        | none => rw [q] at hc; cases hc
        | some n => rw [q] at hc; exact ⟨n, rfl, (Option.some.inj hc).symm⟩
      have ln' := hns n (List.mem_of_getElem? hn)
      obtain ⟨as, hA, lA, hAt⟩ := (hP.same s2).old
      have hp : pls[n]? = some pls[n] := List.getElem?_eq_getElem ln'
      have ha : as[n]? = some as[n] := List.getElem?_eq_getElem (by omega)
      obtain ⟨⟨q0, q8⟩, ⟨r0, r4⟩⟩ := hpl pls[n] (List.getElem_mem _)
      refine ⟨_, rfl, _, rfl, P, _, _, _, rfl, rfl, hA, at_of (j := n) rfl (by rw [List.getElem?_map, ha]; rfl), as[n], _, rfl, hAt n _ _ ha hp, rfl, _, _, rfl, _, _, rfl, rfl, ?_⟩
      refine ⟨_, rfl, _, rfl, I, ims, pls[n].1.toNat, by rw [Int.toNat_of_nonneg q0]; rfl, s2.seq hI, hl, ?_⟩
      have gp : pls.getD n (0, 0) = pls[n] := getD_item hp
      have e1 : reqM ims pls e s' (snds F) (ns.take (i + 1)) = reqM ims pls e s' (snds F) (ns.take i) ++ oneM ims pls e s' (snds F) n := by
        unfold reqM
        rw [take_snoc hn, List.flatMap_append]
        simp
      cases hpr : presentM ims pls[n].1.toNat with
      | false =>
        refine ⟨false, rfl, iteF ?_⟩
        refine ⟨_, _, _, L, rfl, s2, WL, ?_⟩
        rw [e1, eL]
        unfold oneM
        rw [gp, hpr]
        simp
      | true =>
        have hf : F[n]? = some F[n] := List.getElem?_eq_getElem (by omega)
        have mf := List.mem_of_getElem? hf
        have hR2 := hR.same s2
        refine ⟨true, rfl, iteT ?_⟩
        refine ⟨_, rfl, .inl ⟨rfl, _, SqL.of WL.1⟩, _, rfl, _, rfl, _, rfl, _, rfl, _, rfl, _, rfl, _, rfl, R, _, _, _, rfl, rfl, hR2.1, at_of (j := n) rfl (refs_get hf), 3, pls[n].1, pls[n].2, st, F[n].1, e, s', F[n].2, rfl, s2.tup hT, hR2.2 _ mf, by have := hrow _ mf; omega, fun b => absurd b ?_, fun _ S H3 s3 nS dS => ?_⟩
        · rintro (b | b | b)
          · exact b ⟨⟨by decide, by decide⟩, ⟨q0, q8⟩, ⟨r0, r4⟩⟩
          · exact b hs
          · have := hrow _ mf
            omega
        refine ⟨by show 4 ≤ sizeLine; decide, fun t nt => ?_⟩
        have WL3 := (WL.same s3).same (Same.new (o := .tup [.str "write", V.int pls[n].1, V.int pls[n].2, V.ref S]) nt)
        have dS2 := Same.new (o := .tup [.str "write", V.int pls[n].1, V.int pls[n].2, V.ref S]) nt _ _ dS
        have dt : upd H3 t (.tup [.str "write", V.int pls[n].1, V.int pls[n].2, V.ref S]) t = some (.tup [.str "write", .int pls[n].1, .int pls[n].2, .ref S]) := upd_same
        have s5 := (s2.trans s3).trans (Same.new (o := .tup [.str "write", V.int pls[n].1, V.int pls[n].2, V.ref S]) nt)
        have ntD : t ≠ D := (ne_of_none (WL.same s3).1 nt).symm
        have nSD : S ≠ D := (ne_of_none WL.1 nS).symm
        generalize upd H3 t (.tup [.str "write", V.int pls[n].1, V.int pls[n].2, V.ref S]) = H5 at WL3 dS2 dt s5 ⊢
        have lL : L.length ≤ 100 := by
          have := congrArg List.length eL
          rw [List.length_map] at this
          have h2 := req_len ims pls e s' (snds F) (ns.take i)
          rw [List.length_take] at h2
          omega
        refine ⟨D, _, _, rfl, rfl, WL3.1, small _ (by rw [List.length_map]; omega), ?_⟩
        have el : L.map rqV ++ [V.ref t] = (L ++ [(⟨t, S, pls[n].1, pls[n].2, sealM 3 pls[n].1 pls[n].2 e s' F[n].2⟩ : Rq)]).map rqV := by rw [List.map_append]; rfl
        rw [el]
        refine ⟨_, _, _, _, rfl, same_put s5 nD, WRq.put fun e' m => ?_, ?_⟩
        · rcases List.mem_append.mp m with m | m
          · exact WL3.2 e' m
          · have : e' = ⟨t, S, pls[n].1, pls[n].2, sealM 3 pls[n].1 pls[n].2 e s' F[n].2⟩ := by simpa using m
            subst this
            exact ⟨⟨dt, ntD⟩, dS2, nSD⟩
        · rw [List.map_append, e1, eL]
          unfold oneM
          rw [gp, hpr, snds_get hf]
          rfl
    rintro σ H' ⟨v1, v2, v3, L, rfl, s2, WL, eL⟩
    rw [List.take_of_length_le (by simp)] at eL
    exact ⟨_, rfl, k D L H' s2 nD WL eL⟩
theorem sc_law_drop : FnScope ["store", "disk", "e"] ["store", "disk"] (defScope s_law_drop) := ⟨rfl, rfl, rfl, by decide +kernel, rfl, by decide +kernel, by decide +kernel⟩
theorem ok_law_drop (T : Txt w K mg a) : FnOk P w K mg base CX0 3 a.f_law_drop a.d_law_drop ["store", "disk"] (sp_law_drop K a) := by
  refine T.F_law_drop.ok sc_law_drop (fun vs H Q E h => ?len) (fun cdv A outer s H vs Q E hr h => ?body)
  case len =>
    exact sp_law_drop_len h
  case body =>
    obtain ⟨S, m, d, rfl, h, d0, d8, l8, r18, r78, kE, kQ⟩ := h
    refine ⟨_, (pss_one (ps_try_as (i := 2) rfl rfl sc_law_drop.nd rfl rfl ⟨rfl, by decide, .inl T.g_PoolError⟩ takes0
      (fun W pn xe tk _ => (pss_one (ps_ret (pe_cmpR op_isN (pe_methT (pv 0) T.cl_Store T.m_Store_drop_member (ok_Store_drop_member T) (hr.mono (by decide)) T.d_Store_drop_member (fun σ => passAt tk σ) (pa_cons (pv 1) pa_nil)) pe_non (nomark _)))))
      (fun a oe cls d pn hz hf => (pss_one (ps_ret (pe_op op_add pe_int (pe_callTy call_int1 (by rfl) T.n_int (by decide +kernel) (pa_cons (pe_callB (call_isE' hz hf) (by rfl) T.n_isinstance (by decide +kernel) (pa_cons (pv 2) (pa_cons (pe_glob (v := .ref _) rfl T.g_InvalidArgument rfl) pa_nil))) pa_nil)))))))), ?_⟩
    refine ⟨_, rfl, S, m.dx, _, rfl, h.hS, by kernel_rfl, _, rfl, S, m, d, rfl, h, d0, d8, l8, r18, r78, fun md H1 s1 => ?_, fun md u m' H1 st cm bl pm fr up => ?_⟩
    · refine ⟨true, T.u_InvalidArgument_PoolError, fun _ ad hb => ?_, fun z => Bool.noConfusion z⟩
      exact ⟨_, rfl, _, rfl, rfl, T.E_InvalidArgument, _, _, true, rfl, fun _ z => z, T.i_InvalidArgument_InvalidArgument, .inr ⟨true, rfl, _, _, rfl, rfl, kE md _ s1⟩⟩
    · exact ⟨rfl, kQ md u m' H1 st cm bl pm fr up⟩
theorem sc_law_looks_right : FnScope ["store", "used", "due", "disk"] ["store", "used"] (defScope s_law_looks_right) := ⟨rfl, rfl, rfl, by decide +kernel, rfl, by decide +kernel, by decide +kernel⟩
theorem ok_law_looks_right (T : Txt w K mg a) : FnOk P w K mg base CX0 3 a.f_law_looks_right a.d_law_looks_right ["store", "used"] (sp_law_looks_right K a) := by
  refine T.F_law_looks_right.ok sc_law_looks_right (fun vs H Q E h => ?len) (fun cdv A outer s H vs Q E hr h => ?body)
  case len =>
    exact sp_law_looks_right_len h
  case body =>
    obtain ⟨S, U, m, us, rfl, h, hU, pm, l8, r64, k⟩ := h
    have hw := T.hw
    subst hw
    refine ⟨_, (pss_cons (ps_setLc (i := 2) (own := [("disk", 3)]) (g := (gName 3)) (by rfl) sc_law_looks_right.nd rfl rfl (sw_true rfl rfl rfl (by decide +kernel)) (pi_list (pe_callB (cr_sortDk rfl hr.units) (by rfl) T.n_sorted (by decide +kernel) (pa_cons (pv 1) pa_nil))) (blkOk_by (own := [("disk", 3)]) (N := ["store", "used", "due", "disk"]) (sc := defScope s_law_looks_right) (by decide +kernel))
      (fun _ _ _ _ _ => (pg_name (i := 3) sc_law_looks_right.nd rfl (Or.inl rfl))) (fun _ _ _ _ _ => pts_nil) (fun _ _ _ _ _ => (pe_tup (pa_cons (pv 3) (pa_cons (pe_op op_sub pe_int (pe_dget (hu_of hr) (pv 1) (pv 3) (fun _ _ => rfl))) pa_nil)))))
      (pss_one (ps_ret (pe_and (pe_cmpR (op_eqD hr.units) (pe_fld (pv 0) rfl) (pe_callB (cr_sortDk rfl hr.units) (by rfl) T.n_sorted (by decide +kernel) (pa_cons (pv 1) pa_nil)) (nomark _)) (pe_one (pe_cmpR (op_eqD hr.units) (pe_meth0 (pv 0) T.cl_Store T.m_Store_free_counts (ok_Store_free_counts T) (hr.mono (by decide)) T.d_Store_free_counts .nil pass0) (pv 2) (nomark _))))))), ?_⟩
    have lu : us.length ≤ 8 := by rw [pm.length_eq]; exact l8
    have hk : (useK us m).map (·.1) = us.map Sum.inl := by
      unfold useK
      rw [List.map_map]
      rfl
    refine ⟨_, rfl, U, _, us, rfl, hU, hk, by omega, fun A ks nA perm asc => ?_⟩
    have s1 := Same.new (o := .lst (ks.map V.int)) nA
    have dA : upd H A (.lst (ks.map V.int)) A = some (.lst (ks.map V.int)) := upd_same
    generalize upd H A (.lst (ks.map V.int)) = H1 at s1 dA ⊢
    have lk : ks.length ≤ 8 := by rw [perm.length_eq]; exact lu
    refine ⟨A, rfl, ⟨_, SqL.of dA⟩, fun D nD => lc_list (K := K) (a := A) (xs := ks.map V.int) (fun i H' => Same H1 H' ∧ ∃ L : List (Addr × Int × Int), H' D = some (.lst (L.map fun e => V.ref e.1)) ∧ (∀ e ∈ L, H' e.1 = some (.tup [.int e.2.1, .int e.2.2])) ∧ L.map (·.2) = (ks.take i).map fun d => (d, (m.rows : Int) - (18 : Nat) - (usedM m d : Nat))) ⟨Same.new nD, [], upd_same, fun _ m => (nomatch m), rfl⟩ (fun i H' _ q => SqL.of (q.1 _ _ dA)) ?_ ?_⟩
    · rintro i y H2 hy ⟨s2, L, dD, hL, eL⟩
      obtain ⟨d, hd, rfl⟩ := int_item hy
      have il := item_lt hd
      have mdu : d ∈ us := perm.mem_iff.mp (List.mem_of_getElem? hd)
      have dg : DGet H2 U (.int d) (some (.int (usedM m d : Nat))) := by
        have := DGet.k (k := Sum.inl d) (s2 _ _ (s1 _ _ hU))
        rw [val_use mdu] at this
        exact this
      have lL : L.length ≤ 8 := by
        have := congrArg List.length eL
        rw [List.length_map, List.length_map, List.length_take] at this
        omega
      refine ⟨rfl, _, rfl, _, rfl, _, rfl, U, _, rfl, dg, _, _, rfl, rfl, by show 2 ≤ sizeLine; decide, fun t nt => ?_⟩
      have ev : (46 : Int) - ((usedM m d : Nat) : Int) = (m.rows : Int) - (18 : Nat) - (usedM m d : Nat) := by rw [r64]; omega
      dsimp only
      rw [ev]
      have sT := Same.new (o := .tup [V.int d, V.int ((m.rows : Int) - (18 : Nat) - (usedM m d : Nat))]) nt
      have dT : upd H2 t (.tup [V.int d, V.int ((m.rows : Int) - (18 : Nat) - (usedM m d : Nat))]) t = some (.tup [.int d, .int ((m.rows : Int) - (18 : Nat) - (usedM m d : Nat))]) := upd_same
      generalize upd H2 t (.tup [V.int d, V.int ((m.rows : Int) - (18 : Nat) - (usedM m d : Nat))]) = H3 at sT dT ⊢
      have tD : t ≠ D := (ne_of_none dD nt).symm
      refine ⟨_, sT _ _ dD, small _ (by rw [List.length_map]; omega), same_put (s2.trans sT) nD, L ++ [(t, d, (m.rows : Int) - (18 : Nat) - (usedM m d : Nat))], by rw [upd_same, List.map_append]; rfl, fun e me => ?_, by rw [List.map_append, eL, take_snoc hd, List.map_append]; rfl⟩
      rcases List.mem_append.mp me with me | me
      · rw [upd_ne (ne_of (hL e me) dD (by intro z; cases z))]
        exact sT _ _ (hL e me)
      · rw [List.mem_singleton.mp me, upd_ne tD]
        exact dT
    rintro H2 ⟨s2, L, dD, hL, eL⟩
    rw [List.length_map, List.take_length] at eL
    have eks : ∀ {zs : List Int}, zs.Perm us → zs.Pairwise (· ≤ ·) → zs = m.ms := fun p q => List.Perm.eq_of_pairwise (le := (· ≤ ·)) (fun _ _ _ _ h1 h2 => Int.le_antisymm h1 h2) q (h.nd.imp fun h => Int.le_of_lt h) (p.trans pm)
    rw [eks perm asc] at eL
    have h2 := h.same (s1.trans s2)
    refine ⟨_, rfl, S, _, m.dx, _, _, rfl, h2.hS, T.cl_Store, T.na_Store_members, sf_members m, _, rfl, U, _, us, rfl, s2 _ _ (s1 _ _ hU), hk, by omega, fun A' ks' nA' perm' asc' => ?_⟩
    have s3 := Same.new (o := .lst (ks'.map V.int)) nA'
    refine ⟨_, _, dp_ints (SqL.of (s3 _ _ h2.hm)), dp_ints (SqL.of upd_same), shaped_ints _, shaped_ints _, _, rfl, ?_⟩
    rw [eqv_ints, decide_eq_true (eks perm' asc').symm]
    have h3 := h2.same s3
    have dD3 := s3 _ _ dD
    have hL3 : ∀ e ∈ L, _ := fun e me => s3 _ _ (hL e me)
    have sX := (s1.trans s2).trans s3
    refine iteT ⟨_, rfl, S, m.dx, _, rfl, h3.hS, by kernel_rfl, S, m, rfl, h3, l8, fun Fo FL H4 s4 nFo dFo hFo eFo => ?_⟩
    refine ⟨_, rfl, _, _, PtsAt.dp ⟨FL, SqL.of dFo, rfl, fun e me => SqT.of (hFo e me)⟩, PtsAt.dp ⟨L, SqL.of (s4 _ _ dD3), rfl, fun e me => SqT.of (s4 _ _ (hL3 e me))⟩, pairs_shaped _, pairs_shaped _, ?_⟩
    rw [eFo, eL, pairs_eqv]
    exact k _ (sX.trans s4)
theorem sc_Store_init : FnScope ["self", "data", "parity", "rows", "members", "epoch", "disk"] ["self", "data", "parity", "rows", "members", "epoch"] (defScope s_Store_init) := ⟨rfl, rfl, rfl, by decide +kernel, rfl, by decide +kernel, by decide +kernel⟩
theorem ok_Store_init (T : Txt w K mg a) : FnOk P w K mg base CX0 3 a.f_Store_init a.d_Store_init ["self", "data", "parity", "rows", "members", "epoch"] (sp_Store_init K a) := by
  refine T.F_Store_init.ok sc_Store_init (fun vs H Q E h => ?len) (fun cdv A outer s H vs Q E hr h => ?body)
  case len =>
    exact sp_Store_init_len h
  case body =>
    obtain ⟨S, dx, M, d, p, r, e, ms, rfl, hS, hM, nd, h08, l8, r18, r100, k⟩ := h
    have hw := T.hw
    subst hw
    refine ⟨_, (pss_cons (ps_fld (pv 0) (pv 1) rfl)
      (pss_cons (ps_fld (pv 0) (pv 2) rfl)
      (pss_cons (ps_fld (pv 0) (pv 3) rfl)
      (pss_cons (ps_fld (pv 0) (pe_callTy call_list_of (by rfl) T.n_list (by decide +kernel) (pa_cons (pv 4) pa_nil)) rfl)
      (pss_cons (ps_fld (pv 0) (pv 5) rfl)
      (pss_cons (ps_fld (pv 0) (pe_lst pa_nil) rfl)
      (pss_cons (ps_fld (pv 0) pe_int rfl)
      (pss_cons (ps_fld (pv 0) (pe_dc (own := [("disk", 6)]) (g := (gName 6)) (by rfl) sc_Store_init.nd (pi_list (pv 4)) (blkOk_by (own := [("disk", 6)]) (N := ["self", "data", "parity", "rows", "members", "epoch", "disk"]) (sc := defScope s_Store_init) (by decide +kernel))
      (fun _ _ _ _ _ => (pg_name (i := 6) sc_Store_init.nd rfl (Or.inl rfl))) (fun _ _ _ _ _ => pts_nil) (fun _ _ _ _ _ => (pv 6)) (fun _ _ _ _ _ => (pe_make T.mk_Space (ok_Space_init T) (hr.mono (by decide)) rfl T.g_Space T.d_Space_init .nil pass0 (pa_cons (pv 3) (pa_cons (pe_const T.g_FIRST_ROW) pa_nil))))) rfl)
      (pss_cons (ps_fld (pv 0) pe_nnew rfl)
      (pss_one (ps_fld (pv 0) pe_nnew rfl))))))))))), ?_⟩
    refine ⟨_, rfl, _, rfl, S, _, dx, _, rfl, hS, T.cl_Store, T.na_Store_data, (by show 0 < 1000; decide), ?_⟩
    refine ⟨_, rfl, _, rfl, S, _, dx, _, rfl, upd_same, T.cl_Store, T.na_Store_parity, (by show 1 < 1000; decide), ?_⟩
    refine ⟨_, rfl, _, rfl, S, _, dx, _, rfl, upd_same, T.cl_Store, T.na_Store_rows, (by show 2 < 1000; decide), ?_⟩
    have f1 : upd (upd (upd H S (.ins a.c_Store dx (putF "data" (.int (d : Int)) []))) S (.ins a.c_Store dx (putF "parity" (.int (p : Int)) (putF "data" (.int (d : Int)) [])))) S (.ins a.c_Store dx (putF "rows" (.int (r : Int)) (putF "parity" (.int (p : Int)) (putF "data" (.int (d : Int)) [])))) S = some (.ins a.c_Store dx (putF "rows" (.int (r : Int)) (putF "parity" (.int (p : Int)) (putF "data" (.int (d : Int)) [])))) := upd_same
    have k1 : ∀ b, b ≠ S → upd (upd (upd H S (.ins a.c_Store dx (putF "data" (.int (d : Int)) []))) S (.ins a.c_Store dx (putF "parity" (.int (p : Int)) (putF "data" (.int (d : Int)) [])))) S (.ins a.c_Store dx (putF "rows" (.int (r : Int)) (putF "parity" (.int (p : Int)) (putF "data" (.int (d : Int)) [])))) b = H b := fun b n => by rw [upd_ne n, upd_ne n, upd_ne n]
    generalize upd (upd (upd H S (.ins a.c_Store dx (putF "data" (.int (d : Int)) []))) S (.ins a.c_Store dx (putF "parity" (.int (p : Int)) (putF "data" (.int (d : Int)) [])))) S (.ins a.c_Store dx (putF "rows" (.int (r : Int)) (putF "parity" (.int (p : Int)) (putF "data" (.int (d : Int)) [])))) = H1 at f1 k1 ⊢
    have MS : M ≠ S := ne_of hM hS (by intro z; cases z)
    refine ⟨_, rfl, M, _, rfl, .inl (SqL.of (by rw [k1 _ MS]; exact hM)), fun mL nL => ?_⟩
    have LS : mL ≠ S := (ne_of_none f1 nL).symm
    refine ⟨_, rfl, S, _, dx, _, rfl, by rw [upd_ne LS.symm]; exact f1, T.cl_Store, T.na_Store_members, (by show 3 < 1000; decide), ?_⟩
    refine ⟨_, rfl, _, rfl, S, _, dx, _, rfl, upd_same, T.cl_Store, T.na_Store_epoch, (by show 4 < 1000; decide), ?_⟩
    obtain ⟨H2, hH2⟩ : ∃ H2, H2 = upd (upd (upd H1 mL (.lst (ms.map V.int))) S (.ins a.c_Store dx (putF "members" (.ref mL) (putF "rows" (.int (r : Int)) (putF "parity" (.int (p : Int)) (putF "data" (.int (d : Int)) [])))))) S (.ins a.c_Store dx (putF "epoch" (.int e) (putF "members" (.ref mL) (putF "rows" (.int (r : Int)) (putF "parity" (.int (p : Int)) (putF "data" (.int (d : Int)) [])))))) := ⟨_, rfl⟩
    have f2 : H2 S = some (.ins a.c_Store dx (putF "epoch" (.int e) (putF "members" (.ref mL) (putF "rows" (.int (r : Int)) (putF "parity" (.int (p : Int)) (putF "data" (.int (d : Int)) [])))))) := by rw [hH2]; exact upd_same
    have m2 : H2 mL = some (.lst (ms.map V.int)) := by rw [hH2, upd_ne LS, upd_ne LS]; exact upd_same
    have nL0 : H mL = none := by rw [← k1 _ LS]; exact nL
    have k2 : ∀ b o, H b = some o → b ≠ S → H2 b = some o := fun b o e n => by
      rw [hH2, upd_ne n, upd_ne n, upd_ne (ne_of_none e nL0), k1 _ n]
      exact e
    rw [← hH2]
    clear hH2 k1 f1 nL
    -- _images = []
    refine ⟨Nat.zero_le _, fun Im nIm => ?_⟩
    have IS : Im ≠ S := (ne_of_none f2 nIm).symm
    refine ⟨_, rfl, S, _, dx, _, rfl, by rw [upd_ne IS.symm]; exact f2, T.cl_Store, T.na_Store_images, (by show 5 < 1000; decide), ?_⟩
    refine ⟨_, rfl, S, _, dx, _, rfl, upd_same, T.cl_Store, T.na_Store_made, (by show 6 < 1000; decide), ?_⟩
    obtain ⟨F7, hF7⟩ : ∃ F7, F7 = putF "_made" (.int (0 : Int)) (putF "_images" (.ref Im) (putF "epoch" (.int e) (putF "members" (.ref mL) (putF "rows" (.int (r : Int)) (putF "parity" (.int (p : Int)) (putF "data" (.int (d : Int)) [])))))) := ⟨_, rfl⟩
    obtain ⟨H3, hH3⟩ : ∃ H3, H3 = upd (upd (upd H2 Im (.lst [])) S (.ins a.c_Store dx (putF "_images" (.ref Im) (putF "epoch" (.int e) (putF "members" (.ref mL) (putF "rows" (.int (r : Int)) (putF "parity" (.int (p : Int)) (putF "data" (.int (d : Int)) [])))))))) S (.ins a.c_Store dx F7) := ⟨_, rfl⟩
    have f3 : H3 S = some (.ins a.c_Store dx F7) := by rw [hH3]; exact upd_same
    have k23 : ∀ b o, H2 b = some o → b ≠ S → H3 b = some o := fun b o e n => by
      rw [hH3, upd_ne n, upd_ne n, upd_ne (ne_of_none e nIm)]
      exact e
    have m3 := k23 _ _ m2 LS
    have k3 : ∀ b o, H b = some o → b ≠ S → H3 b = some o := fun b o e n => k23 b o (k2 b o e n) n
    rw [← hF7, ← hH3]
    clear hH3 k23 k2 f2 m2 nIm
    have M3 := k3 _ _ hM MS
    have msl : ms.length ≤ 8 := l8
    refine ⟨_, rfl, M, rfl, ⟨_, SqL.of M3⟩, fun D nD => dc_it (walk_list (K := K) (a := M) (xs := ms.map V.int)) (fun i H' => ∃ f : Int → Addr × Addr, Same H3 H' ∧ H' D = some (.dK ((ms.take i).map fun d => ((Sum.inl d : Key), V.ref (f d).1))) ∧ (∀ x ∈ ms.take i, SpD a H' (f x).1 (f x).2 18 r (fun _ => 0) ∧ H3 (f x).1 = none ∧ H3 (f x).2 = none ∧ (f x).2 ≠ D) ∧ ∀ x ∈ ms.take i, ∀ y ∈ ms.take i, (f x).1 = (f y).1 ∨ (f x).2 = (f y).2 → x = y) ⟨fun _ => (0, 0), Same.new nD, upd_same, fun _ m => (nomatch m), fun _ m => (nomatch m)⟩ (fun i H' _ q => by obtain ⟨_, s, _⟩ := q; exact SqL.of (s _ _ M3)) ?_ ?_⟩
    · rintro i y H4 H5 hi ⟨f, s4, d4, sp4, u4⟩ ⟨rfl, hy⟩
      obtain ⟨x, hx, rfl⟩ := int_item hy
      have mx := List.mem_of_getElem? hx
      have il := item_lt hx
      have xn : x ∉ ms.take i := fun z => by
        obtain ⟨j, hj⟩ := List.mem_iff_getElem?.mp z
        rw [List.getElem?_take] at hj
        split at hj
        · next lt =>
          rw [List.pairwise_iff_getElem] at nd
          have lj := item_lt hj
          have := nd j i lj il lt
          rw [show ms[j] = x from Option.some.inj ((List.getElem?_eq_getElem lj).symm.trans hj), show ms[i] = x from Option.some.inj ((List.getElem?_eq_getElem il).symm.trans hx)] at this
          omega
        · cases hj
      refine ⟨rfl, _, rfl, _, rfl, fun po qo npo nqo npq => ⟨po, qo, 18, r, rfl, upd_same, r18, fun do' H6 ndo sp6 fr6 => ⟨rfl, ?_⟩⟩⟩
      have s6 : ∀ b o, H5 b = some o → H6 b = some o := fun b o e => fr6 b o (by rw [upd_ne (ne_of_none e npo), upd_ne (ne_of_none e nqo)]; exact e) (ne_of_none e npo)
      have dp : do' ≠ po := fun z => by rw [z, upd_same] at ndo; cases ndo
      have nd5 : H5 do' = none := by
        by_cases z : do' = qo
        · rw [z]; exact nqo
        · rw [upd_ne dp, upd_ne z] at ndo
          exact ndo
      have poD : po ≠ D := (ne_of_none d4 npo).symm
      have doD : do' ≠ D := (ne_of_none d4 nd5).symm
      obtain ⟨fx, hfx⟩ : ∃ fx : Int → Addr × Addr, fx = fun z => if z = x then (po, do') else f z := ⟨_, rfl⟩
      have fxx : fx x = (po, do') := by rw [hfx]; exact if_pos rfl
      have fxo : ∀ z ∈ ms.take i, fx z = f z := fun z mz => by rw [hfx]; exact if_neg fun e => xn (by rw [← e]; exact mz)
      have emap : (ms.take i).map (fun d => ((Sum.inl d : Key), V.ref (f d).1)) = (ms.take i).map fun d => ((Sum.inl d : Key), V.ref (fx d).1) := List.map_congr_left fun z mz => by rw [fxo z mz]
      refine ⟨_, Sum.inl x, rfl, s6 _ _ d4, small _ (by rw [List.length_map, List.length_take]; omega), fx, ?_, ?_, ?_, ?_⟩
      · exact same_put (fun b o e => s6 _ _ (s4 _ _ e)) nD
      · rw [upd_same, take_snoc hx, List.map_append, emap, putK_new _ (val_no (f := fun d => (fx d).1) xn)]
        show some (HO.dK (_ ++ [((Sum.inl x : Key), V.ref po)])) = some (HO.dK (_ ++ [((Sum.inl x : Key), V.ref (fx x).1)]))
        rw [fxx]
      · intro z mz
        rw [take_snoc hx] at mz
        rcases List.mem_append.mp mz with mz | mz
        · obtain ⟨a1, a2, a3, a4⟩ := sp4 z mz
          rw [fxo z mz]
          refine ⟨a1.keep (fun o e => ?_) (fun o e => ?_), a2, a3, a4⟩
          · obtain ⟨_, _, _, e1, _⟩ := a1
            rw [upd_ne (ne_of e1 d4 (by intro z; cases z))]
            exact s6 _ _ e
          · rw [upd_ne a4]
            exact s6 _ _ e
        · rw [List.mem_singleton.mp mz, fxx]
          refine ⟨sp6.keep (fun o e => by rw [upd_ne poD]; exact e) (fun o e => by rw [upd_ne doD]; exact e), same_none s4 npo, same_none s4 nd5, doD⟩
      · have cross : ∀ z ∈ ms.take i, (f z).1 ≠ po ∧ (f z).2 ≠ do' := fun z mz => by
          obtain ⟨⟨_, _, _, e1, e2, _⟩, _⟩ := sp4 z mz
          exact ⟨ne_of_none e1 npo, ne_of_none e2 nd5⟩
        intro z mz w mw h
        rw [take_snoc hx] at mz mw
        rcases List.mem_append.mp mz with mz | mz
        · rcases List.mem_append.mp mw with mw | mw
          · rw [fxo z mz, fxo w mw] at h
            exact u4 z mz w mw h
          · rw [List.mem_singleton.mp mw, fxo z mz, fxx] at h
            exact absurd h fun q => q.elim (cross z mz).1 (cross z mz).2
        · rcases List.mem_append.mp mw with mw | mw
          · rw [List.mem_singleton.mp mz, fxo w mw, fxx] at h
            exact absurd h fun q => q.elim (fun e => (cross w mw).1 e.symm) fun e => (cross w mw).2 e.symm
          · rw [List.mem_singleton.mp mz, List.mem_singleton.mp mw]
    rintro H4 ⟨f, s4, d4, sp4, u4⟩
    rw [List.length_map, List.take_length] at d4 sp4 u4
    have f4 := s4 _ _ f3
    have DS : D ≠ S := (ne_of_none f3 nD).symm
    refine ⟨_, rfl, S, _, dx, _, rfl, f4, T.cl_Store, T.na_Store_spaces, (by rw [hF7]; show 7 < 1000; decide), ?_⟩
    intro bD nbD
    have bS : bD ≠ S := fun z => by rw [z, upd_same] at nbD; cases nbD
    have nb4 : H4 bD = none := by rw [upd_ne bS] at nbD; exact nbD
    refine ⟨_, rfl, S, _, dx, _, rfl, by rw [upd_ne bS.symm]; exact upd_same, T.cl_Store, T.na_Store_blocks, (by rw [hF7]; show 8 < 1000; decide), ?_⟩
    intro mD nmD
    have mS : mD ≠ S := fun z => by rw [z, upd_same] at nmD; cases nmD
    have mb : mD ≠ bD := fun z => by rw [z, upd_ne bS, upd_same] at nmD; cases nmD
    have nm4 : H4 mD = none := by rw [upd_ne mS, upd_ne mb, upd_ne mS] at nmD; exact nmD
    refine ⟨_, rfl, S, _, dx, _, rfl, by rw [upd_ne mS.symm]; exact upd_same, T.cl_Store, T.na_Store_memory, (by rw [hF7]; show 9 < 1000; decide), ?_⟩
    have m0 : SM := ⟨dx, mL, D, bD, mD, Im, f, d, p, r, 0, e, ms, [], ms⟩
    obtain ⟨m, hm⟩ : ∃ m : SM, m = ⟨dx, mL, D, bD, mD, Im, f, d, p, r, 0, e, ms, [], ms⟩ := ⟨_, rfl⟩
    have ef : putF "_memory" (.ref mD) (putF "_blocks" (.ref bD) (putF "_spaces" (.ref D) F7)) = sflds m := by rw [hF7, hm]; kernel_rfl
    have keep : ∀ x o, H4 x = some o → x ≠ S → upd (upd (upd (upd (upd H4 S (.ins a.c_Store dx (putF "_spaces" (.ref D) F7))) bD (L2.NO a.wd bD [])) S (.ins a.c_Store dx (putF "_blocks" (.ref bD) (putF "_spaces" (.ref D) F7)))) mD (L2.NO a.wd mD [])) S (.ins a.c_Store dx (putF "_memory" (.ref mD) (putF "_blocks" (.ref bD) (putF "_spaces" (.ref D) F7)))) x = some o := fun x o ex n => by
      rw [upd_ne n, upd_ne (ne_of_none ex nm4), upd_ne n, upd_ne (ne_of_none ex nb4), upd_ne n]
      exact ex
    have frH : ∀ b o, H b = some o → b ≠ S → H4 b = some o := fun b o ex n => s4 _ _ (k3 b o ex n)
    have freshH : ∀ b, H3 b = none → b ≠ S → H b = none := fun b n ne => by
      cases z : H b with
      | none => rfl
      | some o => rw [k3 b o z ne] at n; cases n
    refine k m _ ⟨?_, ?_, ?_, fun x mx => ?_, ?_, ?_, ?_, ?_, ?_, ?_, ?_, ?_, ?_, ?_, ?_, ?_, by rw [hm]⟩ (by rw [hm]) (by rw [hm]) (by rw [hm]) (by rw [hm]) (by rw [hm]) (by rw [hm]) (by rw [hm]) (fun b o ex n => keep b o (frH b o ex n) n) fun b r => ?_
    · rw [upd_same, ← ef, hm]
    · rw [hm]
      exact keep _ _ (s4 _ _ m3) LS
    · rw [hm]
      exact keep _ _ d4 DS
    · rw [hm] at mx ⊢
      obtain ⟨a1, a2, a3, a4⟩ := sp4 x mx
      have e0 : phiM ([] : List Blk) x = fun _ => 0 := by funext y; rfl
      show SpD a _ (f x).1 (f x).2 18 r (phiM ([] : List Blk) x)
      rw [e0]
      refine a1.keep (fun o e => keep _ _ e fun z => ?_) (fun o e => keep _ _ e fun z => ?_)
      · rw [z, f3] at a2; cases a2
      · rw [z, f3] at a3; cases a3
    · rw [hm]; exact u4
    · rw [hm]
      show upd _ S _ bD = _
      rw [upd_ne bS, upd_ne mb.symm, upd_ne bS, upd_same]
      rfl
    · rw [hm]
      show upd _ S _ mD = _
      rw [upd_ne mS, upd_same]
      rfl
    · rw [hm]; exact mb.symm
    · rw [hm]; exact fun _ m => (nomatch m)
    · rw [hm]; exact nd
    · rw [hm]; exact h08
    · rw [hm]; exact fun _ m => (nomatch m)
    · rw [hm]; exact List.nodup_nil
    · rw [hm]; exact fun _ m => (nomatch m)
    · rw [hm]; exact List.nodup_nil
    · rw [hm]; exact fun _ m => (nomatch m)
    · rw [hm] at r
      cases r with
      | s => exact .inl rfl
      | ml => exact .inr nL0
      | spd => exact .inr (freshH _ nD DS)
      | bd => exact .inr (freshH _ (same_none s4 nb4) bS)
      | md => exact .inr (freshH _ (same_none s4 nm4) mS)
      | s1 x mx =>
        by_cases z : (f x).1 = S
        · exact .inl z
        · exact .inr (freshH _ (sp4 x mx).2.1 z)
      | s2 x mx =>
        by_cases z : (f x).2 = S
        · exact .inl z
        · exact .inr (freshH _ (sp4 x mx).2.2.1 z)
      | t b mb => exact nomatch mb
      | pt b mb => exact nomatch mb
      | w b mb => exact nomatch mb
      | q b e mb me => exact nomatch mb
theorem sc_Store_put : FnScope ["self", "words", "avoid", "candidates", "disks", "places", "pointer", "disk", "free"] ["self", "words", "avoid"] (defScope s_Store_put) := ⟨rfl, rfl, rfl, by decide +kernel, rfl, by decide +kernel, by decide +kernel⟩
theorem ok_Store_put (T : Txt w K mg a) : FnOk P w K mg base (L2.CX P w) 3 a.f_Store_put a.d_Store_put ["self", "words", "avoid"] (sp_Store_put K a) := by
  refine T.F_Store_put.okX sc_Store_put (fun vs H Q E h => ?len) (fun cdv A outer s H vs Q E hr h => ?body)
  case len =>
    exact sp_Store_put_len h
  case body =>
    obtain ⟨S, W, A', m, ws, av, ims, rfl, h, hW, nWR, hA, hI, l100, l9, r100, l8, d1, w8, kE, kN, kQ⟩ := h
    have hw := T.hw
    subst hw
    refine ⟨_, (pss_cons (ps_if (pt_cmpR op_gt (pe_callB call_len_seq (by rfl) T.n_len PySem.boot_len (pa_cons (pv 1) pa_nil)) (pe_op op_mul (pe_const T.g_MAX_PAYLOAD) (pe_fld (pv 0) rfl)) (nomark _))
      (pss_one (ps_raise rfl (takes_of rfl rfl rfl rfl) (pmk_own PySem.F.excBase_ValueError T.x_InvalidArgument T.g_InvalidArgument T.k_InvalidArgument (raises_own T.b_InvalidArgument T.t_InvalidArgument) (by exact rfl))))
      pss_nil)
      (Evl.pss_cut (ps_setLc (i := 3) (own := [("disk", 7), ("free", 8)]) (g := (gTup K 2 (gCons (gName 7) (gCons (gName 8) gNil)))) (by rfl) sc_Store_put.nd rfl rfl (sw_true rfl rfl rfl (by decide +kernel)) (pi_list (pe_meth0 (pv 0) T.cl_Store T.m_Store_free_counts (ok_Store_free_counts T) (hr.mono (by decide)) T.d_Store_free_counts .nil pass0)) (blkOk_by (own := [("disk", 7), ("free", 8)]) (N := ["self", "words", "avoid", "candidates", "disks", "places", "pointer", "disk", "free"]) (sc := defScope s_Store_put) (by decide +kernel))
      (fun _ _ _ _ _ => (pg_tup rfl (pgs_cons (pg_name (i := 7) sc_Store_put.nd rfl (Or.inl rfl)) (pgs_cons (pg_name (i := 8) sc_Store_put.nd rfl (Or.inl rfl)) pgs_nil)))) (fun _ _ _ _ _ => (pts_one (pt_cmpR (by exact op_notIn_seq : OpR _ _ (rIn K true)) (pv 7) (pv 2) (by rfl)))) (fun _ _ _ _ _ => (pe_tup (pa_cons (pv 7) (pa_cons (pe_call (ok_is_present T) (hr.mono (by decide)) rfl T.g_is_present T.F_is_present.kp T.d_is_present .nil pass0 (pa_cons (by exact (pe_fld (pv 0) rfl) : PE _ _ (tFld K _ _)) (pa_cons (pv 7) pa_nil))) (pa_cons (pv 8) pa_nil))))))
      (Evl.pss_cut (ps_set (i := 4) sc_Store_put.nd rfl (Or.inl rfl) (pe_call (ok_choose_disks T) (hr.mono (by decide)) rfl T.g_choose_disks T.F_choose_disks.kp T.d_choose_disks .nil (passes_call (takes_of rfl rfl rfl rfl) (fun _ _ _ _ z => z)) (pa_cons (pv 3) (pa_cons (pe_op op_add (pe_fld (pv 0) rfl) (pe_fld (pv 0) rfl)) pa_nil))))
      (Evl.pss_cut (ps_set (i := 5) sc_Store_put.nd rfl (Or.inl rfl) (pe_callTy call_tuple_of (by rfl) T.n_tuple (by decide +kernel) (pa_cons (pe_lc (own := [("disk", 7)]) (g := (gName 7)) (by rfl) sc_Store_put.nd (pi_list (pv 4)) (blkOk_by (own := [("disk", 7)]) (N := ["self", "words", "avoid", "candidates", "disks", "places", "pointer", "disk", "free"]) (sc := defScope s_Store_put) (by decide +kernel))
      (fun _ _ _ _ _ => (pg_name (i := 7) sc_Store_put.nd rfl (Or.inl rfl))) (fun _ _ _ _ _ => pts_nil) (fun _ _ _ _ _ => (pe_tup (pa_cons (pv 7) (pa_cons (pe_meth0 (pe_dget (hu_of hr) (by exact (pe_fld (pv 0) rfl) : PE _ _ (tFld K _ _)) (pv 7) (fun _ _ => rfl)) T.cl_Space T.m_Space_take (ok_Space_take T) (hr.mono (by decide)) T.d_Space_take .nil passL) pa_nil))))) pa_nil)))
      (pss_cons (ps_set (i := 6) sc_Store_put.nd rfl (Or.inl rfl) (pe_tup (pa_cons (pe_fld (pv 0) rfl) (pa_cons (pe_fld (pv 0) rfl) (pa_cons (pe_callB call_len_seq (by rfl) T.n_len PySem.boot_len (pa_cons (pv 1) pa_nil)) (pa_cons (pv 5) pa_nil))))))
      (pss_cons (ps_fldaug (pv 0) pe_int ip_add)
      (pss_cons (ps_nput hr.units (pe_fld (pv 0) rfl) (pv 6) pe_bl rfl)
      (pss_cons (ps_nput hr.units (pe_fld (pv 0) rfl) (pv 6) (pe_callTy call_list_of (by rfl) T.n_list (by decide +kernel) (pa_cons (pv 1) pa_nil)) rfl)
      (pss_one (ps_ret (pv 6))))))))))), ?_⟩
    refine ⟨_, rfl, W, _, rfl, .inl hW, _, rfl, S, _, m.dx, _, _, rfl, h.hS, T.cl_Store, T.na_Store_data, sf_data m, _, _, rfl, rfl, .inl ⟨by decide, by decide⟩, _, _, rfl, rfl, _, rfl, ite2 (fun z => ?_) (fun z => ?_)⟩
    · refine kE ?_ _ (Same.refl _)
      have z := of_decide_eq_true z
      rw [List.length_map] at z
      omega
    have lw : ws.length ≤ 1000 * m.data := by
      have : ¬ (1000 : Int) * (m.data : Int) < ((ws.map V.int).length : Nat) := fun y => z (decide_eq_true y)
      rw [List.length_map] at this
      omega
    clear kE z
    replace kN := kN lw
    replace kQ := kQ lw
    -- candidates
    obtain ⟨cs, hcs⟩ : ∃ cs, cs = m.ms.filter fun d => decide (d ∉ av) := ⟨_, rfl⟩
    rw [← hcs] at kN kQ
    have csub : ∀ d ∈ cs, d ∈ m.ms ∧ d ∉ av := fun d md => by
      rw [hcs] at md
      exact ⟨(List.mem_filter.mp md).1, of_decide_eq_true (List.mem_filter.mp md).2⟩
    have cnd : cs.Nodup := by
      rw [hcs]
      exact (h.nd.imp fun h => Int.ne_of_lt h).sublist List.filter_sublist
    refine ⟨fun σ H' => ∃ (C : Addr) (L : List Cd), σ = [some (.ref S), some (.ref W), some (.ref A'), some (.ref C), none, none, none, none, none] ∧ Same H H' ∧ CdL K H' C L ∧ L.map (fun c => (c.d, c.f)) = cs.map fun d => (d, (m.rows : Int) - (18 : Nat) - (usedM m d : Nat)), ?_, ?_⟩
    · refine ⟨_, rfl, S, m.dx, _, rfl, h.hS, by kernel_rfl, S, m, rfl, h, l8, fun FC FL H1 s1 nFC dFC hFC eFC => ⟨FC, rfl, ⟨_, SqL.of dFC⟩, fun C nC => lc_list (K := K) (a := FC) (xs := FL.map fun e => V.ref e.1) (fun i H' => Same H1 H' ∧ ∃ L : List Cd, H' C = some (.lst (L.map cdV)) ∧ (∀ e ∈ L, H' e.t = some (.tup [.int e.d, .bl e.b, .int e.f])) ∧ L.map (fun c => (c.d, c.f)) = ((FL.take i).map (·.2)).filter fun q => decide (q.1 ∉ av)) ⟨Same.new nC, [], upd_same, fun _ m => (nomatch m), rfl⟩ (fun i H' _ q => q.1.seq (SqL.of dFC)) ?_ ?_⟩⟩
      · rintro i y H2 hy ⟨s2, L, dL, hL, eL⟩
        obtain ⟨e, he, rfl⟩ : ∃ e, FL[i]? = some e ∧ y = V.ref e.1 := by
          rw [List.getElem?_map] at hy
          cases z : FL[i]? with
          | none => rw [z] at hy; cases hy
          | some e => rw [z] at hy; exact ⟨e, rfl, (Option.some.inj hy).symm⟩
        have me := List.mem_of_getElem? he
        have md : e.2.1 ∈ m.ms := by
          have : e.2 ∈ FL.map (·.2) := List.mem_map.mpr ⟨e, me, rfl⟩
          rw [eFC] at this
          obtain ⟨d, hd, z⟩ := List.mem_map.mp this
          rw [← z]
          exact hd
        have s02 := s1.trans s2
        have lL : L.length ≤ 8 := by
          have l1 := congrArg List.length eL
          have l2 := congrArg List.length eFC
          have l3 := List.length_filter_le (fun q : Int × Int => decide (q.1 ∉ av)) ((FL.take i).map (·.2))
          rw [List.length_map] at l1 l3
          rw [List.length_map, List.length_map] at l2
          rw [List.length_take] at l3
          omega
        have hA2 : SqL K H2 A' (av.map V.int) ∨ SqT K H2 A' (av.map V.int) := hA.imp s02.seq s02.tup
        refine ⟨e.1, _, rfl, SqT.of (s2 _ _ (hFC e me)), rfl, _, _, rfl, _, _, rfl, rfl, ?_⟩
        refine ⟨rfl, _, rfl, _, rfl, A', _, rfl, hA2, rfl, flat_intsS _, _, rfl, ?_⟩
        rw [inV_intsS]
        have ft : ((FL.take (i + 1)).map (·.2)).filter (fun q => decide (q.1 ∉ av)) = ((FL.take i).map (·.2)).filter (fun q => decide (q.1 ∉ av)) ++ if e.2.1 ∉ av then [e.2] else [] := by
          rw [take_snoc he, List.map_append, List.filter_append]
          congr 1
          simp only [List.map_cons, List.map_nil, List.filter_cons, List.filter_nil, decide_eq_true_eq]
        by_cases c : e.2.1 ∈ av
        · rw [decide_eq_true c]
          refine iteF ⟨s2, L, dL, hL, ?_⟩
          rw [ft, if_neg (fun z => z c), List.append_nil]
          exact eL
        · rw [decide_eq_false c]
          have st2 := h.same s02
          refine iteT ⟨_, rfl, _, rfl, S, _, m.dx, _, _, rfl, st2.hS, T.cl_Store, T.na_Store_images, sf_images m, _, rfl, m.I, ims, e.2.1.toNat, by rw [Int.toNat_of_nonneg (h.m0 _ md).1]; rfl, s02.seq hI, l100, _, rfl, by show 3 ≤ sizeLine; decide, fun t nt => ?_⟩
          have sT := Same.new (o := .tup [V.int e.2.1, V.bl (presentM ims e.2.1.toNat), V.int e.2.2]) nt
          have dT : upd H2 t (.tup [V.int e.2.1, V.bl (presentM ims e.2.1.toNat), V.int e.2.2]) t = some (.tup [.int e.2.1, .bl (presentM ims e.2.1.toNat), .int e.2.2]) := upd_same
          generalize upd H2 t (.tup [V.int e.2.1, V.bl (presentM ims e.2.1.toNat), V.int e.2.2]) = H3 at sT dT ⊢
          have tC : t ≠ C := (ne_of_none dL nt).symm
          refine ⟨_, sT _ _ dL, small _ (by rw [List.length_map]; omega), same_put (s2.trans sT) nC, L ++ [⟨t, e.2.1, presentM ims e.2.1.toNat, e.2.2⟩], by rw [upd_same, List.map_append]; rfl, fun x mx => ?_, by rw [ft, if_pos c, List.map_append, eL]; rfl⟩
          rcases List.mem_append.mp mx with mx | mx
          · rw [upd_ne (ne_of (hL x mx) dL (by intro z; cases z))]
            exact sT _ _ (hL x mx)
          · rw [List.mem_singleton.mp mx, upd_ne tC]
            exact dT
      rintro H2 ⟨s2, L, dL, hL, eL⟩
      rw [List.length_map, List.take_length, eFC] at eL
      refine ⟨C, L, rfl, s1.trans s2, ⟨SqL.of dL, hL⟩, ?_⟩
      rw [eL, hcs, List.filter_map]
      rfl
    rintro σ H1 ⟨C, L, rfl, s1, hC, eL⟩
    have h1 := h.same s1
    -- disks
    have lL : L.length = cs.length := by
      have := congrArg List.length eL
      rwa [List.length_map, List.length_map] at this
    have cs8 : cs.length ≤ 8 := by
      rw [hcs]
      exact Nat.le_trans (List.length_filter_le _ _) l8
    have eD : L.map (·.d) = cs := by
      have := congrArg (List.map Prod.fst) eL
      rw [List.map_map, List.map_map] at this
      have e2 : cs.map (Prod.fst ∘ fun d => (d, (m.rows : Int) - (18 : Nat) - (usedM m d : Nat))) = cs := by
        conv => rhs; rw [← List.map_id cs]
        rfl
      rw [e2] at this
      exact this
    have eU : m.data + m.par ≤ cs.length → usableM L = L := fun cg => List.filter_eq_self.mpr fun c mc => decide_eq_true (by
      have c2 := (kQ cg).1
      have : (c.d, c.f) ∈ L.map (fun c => (c.d, c.f)) := List.mem_map.mpr ⟨c, mc, rfl⟩
      rw [eL] at this
      obtain ⟨d, md, z⟩ := List.mem_map.mp this
      have u := h.used d
      have z2 : (m.rows : Int) - (18 : Nat) - (usedM m d : Nat) = c.f := congrArg Prod.snd z
      omega)
    refine ⟨fun σ H' => ∃ (DK : Addr) (ns : List Int), σ = [some (.ref S), some (.ref W), some (.ref A'), some (.ref C), some (.ref DK), none, none, none, none] ∧ Same H H' ∧ ¬ StR S m DK ∧ H' DK = some (.lst (ns.map V.int)) ∧ ns.Pairwise (· < ·) ∧ ns.length = m.data + m.par ∧ (∀ d ∈ ns, d ∈ m.ms ∧ d ∉ av) ∧ m.data + m.par ≤ cs.length, ?_, ?_⟩
    · refine ⟨_, rfl, _, rfl, S, _, m.dx, _, _, rfl, h1.hS, T.cl_Store, T.na_Store_data, sf_data m, _, rfl, S, _, m.dx, _, _, rfl, h1.hS, T.cl_Store, T.na_Store_parity, sf_parity m, _, _, rfl, rfl, C, L, m.data + m.par, rfl, hC, by omega, by omega, by rw [eD]; exact cnd, fun b H' s' => kN (by omega) H' (s1.trans s'), fun cg b => absurd b (by rw [eU (by omega)]; omega), fun cg _ DK ns H2 s2 nDK dDK perm asc => ?_⟩
      rw [eU (by omega)] at perm
      obtain ⟨b1, b2, b3⟩ := best_facts (U := L) (w := m.data + m.par) (by rw [eD]; exact cnd) (by omega)
      have nn : ns.Nodup := perm.nodup_iff.mpr b2
      refine ⟨DK, ns, rfl, s1.trans s2, h1.fresh nDK, dDK, (asc.and nn).imp fun h => by omega, by rw [perm.length_eq, b1], fun d md => ?_, by omega⟩
      obtain ⟨e, me, z⟩ := b3 d (perm.mem_iff.mp md)
      refine csub d ?_
      rw [← eD, ← z]
      exact List.mem_map.mpr ⟨e, me, rfl⟩
    rintro σ H2 ⟨DK, ns, rfl, s2, dkR, dDK, asc, ln, hns, cg⟩
    obtain ⟨c2, c3, kQ⟩ := kQ cg
    clear eU eD lL cs8 hC eL h1 s1 csub cnd
    -- places
    have h2 := h.same s2
    refine ⟨fun σ H' => ∃ (PT : Addr) (PL : List (Addr × Int × Int)), σ = [some (.ref S), some (.ref W), some (.ref A'), some (.ref C), some (.ref DK), some (.ref PT), none, none, none] ∧ (∀ x o, H x = some o → ¬ StR S m x → H' x = some o) ∧ StorP a H' S m (psiT m.bl PL) ∧ H' PT = some (.tup (PL.map fun q => V.ref q.1)) ∧ (∀ e ∈ PL, H' e.1 = some (.tup [.int e.2.1, .int e.2.2]) ∧ H e.1 = none) ∧ PL.map (fun e => e.2.1) = ns ∧ (∀ e ∈ PL, (18 ≤ e.2.2 ∧ e.2.2 < m.rows) ∧ phiM m.bl e.2.1 e.2.2 = 0) ∧ H PT = none, ?_, ?_⟩
    · refine ⟨_, rfl, DK, rfl, ⟨_, SqL.of dDK⟩, fun R nR => lc_list (K := K) (a := DK) (xs := ns.map V.int) (fun j H' => ∃ PL : List (Addr × Int × Int), (∀ x o, H2 x = some o → ¬ StR S m x → H' x = some o) ∧ StorP a H' S m (psiT m.bl PL) ∧ H' R = some (.lst (PL.map fun q => V.ref q.1)) ∧ (∀ e ∈ PL, H' e.1 = some (.tup [.int e.2.1, .int e.2.2]) ∧ H2 e.1 = none) ∧ PL.map (fun e => e.2.1) = ns.take j ∧ ∀ e ∈ PL, (18 ≤ e.2.2 ∧ e.2.2 < m.rows) ∧ phiM m.bl e.2.1 e.2.2 = 0) ⟨[], fun x o e _ => Same.new nR _ _ e, ?_, upd_same, fun _ m => (nomatch m), rfl, fun _ m => (nomatch m)⟩ (fun j H' _ q => by obtain ⟨_, q, _⟩ := q; exact SqL.of (q _ _ dDK dkR)) ?_ ?_⟩
      · refine (h2.put (h2.fresh nR)).psi fun d _ => ?_
        funext r
        rfl
      · rintro j y H3 hy ⟨PL, fr, st, dR, hPL, ePL, rPL⟩
        obtain ⟨d, hd, rfl⟩ := int_item hy
        have mdn := List.mem_of_getElem? hd
        obtain ⟨md, nav⟩ := hns d mdn
        have lPL : PL.length = j := by
          have := congrArg List.length ePL
          have := item_lt hd
          rw [List.length_map, List.length_take] at *
          omega
        have dn : d ∉ ns.take j := fun z => by
          obtain ⟨j', hj'⟩ := List.mem_iff_getElem?.mp z
          rw [List.getElem?_take] at hj'
          split at hj'
          · next lt =>
            rw [List.pairwise_iff_getElem] at asc
            have l1 := item_lt hj'
            have l2 := item_lt hd
            have := asc j' j l1 l2 lt
            rw [show ns[j'] = d from Option.some.inj ((List.getElem?_eq_getElem l1).symm.trans hj'), show ns[j] = d from Option.some.inj ((List.getElem?_eq_getElem l2).symm.trans hd)] at this
            omega
          · cases hj'
        have eps : psiT m.bl PL d = phiM m.bl d := by
          funext r
          unfold psiT
          rw [if_neg fun z => ?_]
          obtain ⟨q, mq, z⟩ := List.any_eq_true.mp z
          have z := of_decide_eq_true z
          refine dn ?_
          rw [← ePL]
          exact List.mem_map.mpr ⟨q, mq, by rw [z]⟩
        obtain ⟨dx', low, M, e1, _⟩ := id (st.sp d md)
        refine ⟨rfl, _, rfl, _, rfl, S, _, m.dx, _, _, rfl, st.hS, T.cl_Store, T.na_Store_spaces, sf_spaces m, _, rfl, m.spd, _, rfl, st.spget md, (m.sp d).1, dx', _, rfl, e1, rfl, (m.sp d).1, (m.sp d).2, 18, m.rows, psiT m.bl PL d, rfl, st.sp d md, by omega, fun z => absurd z (by rw [eps]; exact h.room c2 d), fun r hr hz _ H4 sp4 fr4 => ⟨by show 2 ≤ sizeLine; decide, fun t nt => ?_⟩⟩
        rw [eps] at hz sp4
        have st4 := st.space md sp4 fr4
        have nRs : R ≠ (m.sp d).1 ∧ R ≠ (m.sp d).2 := by
          obtain ⟨_, _, _, g1, g2, _⟩ := h2.sp d md
          exact ⟨(ne_of_none g1 nR).symm, (ne_of_none g2 nR).symm⟩
        have dR4 := fr4 _ _ dR nRs.1 nRs.2
        have sT := Same.new (o := .tup [V.int d, V.int r]) nt
        have dT : upd H4 t (.tup [V.int d, V.int r]) t = some (.tup [.int d, .int r]) := upd_same
        have st5 := st4.same sT
        generalize upd H4 t (.tup [V.int d, V.int r]) = H5 at sT dT st5 ⊢
        have tR : t ≠ R := (ne_of_none dR4 nt).symm
        have nt2 : H2 t = none := by
          cases z : H2 t with
          | none => rfl
          | some o =>
            by_cases c : StR S m t
            · have := st4.there c
              obtain ⟨o', e⟩ := this
              rw [nt] at e
              cases e
            · have e := fr _ _ z c
              have e := fr4 _ _ e (fun y => c (by rw [y]; exact .s1 d md)) (fun y => c (by rw [y]; exact .s2 d md))
              rw [nt] at e
              cases e
        refine ⟨_, sT _ _ dR4, small _ (by rw [List.length_map]; have := item_lt hd; omega), PL ++ [(t, d, r)], fun x o ex n => ?_, ?_, ?_, fun e me => ?_, ?_, fun e me => ?_⟩
        · rw [upd_ne (ne_of_none ex nR)]
          exact sT _ _ (fr4 _ _ (fr x o ex n) (fun y => n (by rw [y]; exact .s1 d md)) fun y => n (by rw [y]; exact .s2 d md))
        · refine (st5.put (h2.fresh nR)).psi fun x mx => ?_
          funext y
          show (if x = d then upF (phiM m.bl d) r 1 else psiT m.bl PL x) y = psiT m.bl (PL ++ [(t, d, r)]) x y
          unfold psiT
          rw [List.any_append]
          by_cases c : x = d
          · subst c
            rw [if_pos rfl]
            have n0 : (PL.any fun q => decide (q.2 = (x, y))) = false := by
              rw [Bool.eq_false_iff]
              intro z
              obtain ⟨q, mq, z⟩ := List.any_eq_true.mp z
              have z := of_decide_eq_true z
              refine dn ?_
              rw [← ePL]
              exact List.mem_map.mpr ⟨q, mq, by rw [z]⟩
            rw [n0, Bool.false_or]
            unfold upF
            by_cases c2 : y = r
            · subst c2
              rw [if_pos rfl]
              simp
            · rw [if_neg c2, if_neg]
              intro z
              have z := of_decide_eq_true (by simpa using z : decide ((x, r) = (x, y)) = true)
              exact c2 (congrArg Prod.snd z).symm
          · rw [if_neg c]
            have n0 : ([(t, d, r)].any fun q => decide (q.2 = (x, y))) = false := by
              rw [Bool.eq_false_iff]
              intro z
              have z := of_decide_eq_true (by simpa using z : decide ((d, r) = (x, y)) = true)
              exact c (congrArg Prod.fst z).symm
            rw [n0, Bool.or_false]
        · rw [upd_same, List.map_append]
          rfl
        · rcases List.mem_append.mp me with me | me
          · obtain ⟨g1, g2⟩ := hPL e me
            refine ⟨?_, g2⟩
            rw [upd_ne (ne_of g1 dR (by intro z; cases z))]
            refine sT _ _ (fr4 _ _ g1 ?_ ?_)
            · exact ne_of g1 e1 (by intro z; cases z)
            · obtain ⟨_, _, _, _, g3, _⟩ := st.sp d md
              exact ne_of g1 g3 (by intro z; cases z)
          · rw [List.mem_singleton.mp me]
            exact ⟨by rw [upd_ne tR]; exact dT, nt2⟩
        · rw [List.map_append, ePL, take_snoc hd]
          rfl
        · rcases List.mem_append.mp me with me | me
          · exact rPL e me
          · rw [List.mem_singleton.mp me]
            exact ⟨hr, hz⟩
      rintro H3 ⟨PL, fr, st, dR, hPL, ePL, rPL⟩
      rw [List.length_map, List.take_length] at ePL
      refine ⟨R, _, rfl, .inl ⟨SqL.of dR, fun PT nPT => ?_⟩⟩
      have sP := Same.new (o := .tup (PL.map fun q => V.ref q.1)) nPT
      have nP2 : H PT = none := by
        cases z : H PT with
        | none => rfl
        | some o =>
          by_cases c : StR S m PT
          · obtain ⟨o', e⟩ := st.there c
            rw [nPT] at e
            cases e
          · have e := fr _ _ (s2 _ _ z) c
            rw [nPT] at e
            cases e
      exact ⟨PT, PL, rfl, fun x o ex n => sP _ _ (fr _ _ (s2 _ _ ex) n), st.same sP, upd_same, fun e me => ⟨sP _ _ (hPL e me).1, same_none s2 (hPL e me).2⟩, ePL, rPL, nP2⟩
    rintro σ H3 ⟨PT, PL, rfl, fr, st, dPT, hPL, ePL, rPL, nPT⟩
    clear h2 dkR dDK
    have hW3 : SqL K H3 W (ws.map V.int) := seq_keep hW fun o e => fr _ _ e nWR
    refine ⟨_, rfl, S, _, m.dx, _, _, rfl, st.hS, T.cl_Store, T.na_Store_epoch, sf_epoch m, _, rfl, S, _, m.dx, _, _, rfl, st.hS, T.cl_Store, T.na_Store_made, sf_made m, _, rfl, W, _, rfl, .inl hW3, _, rfl, by show 4 ≤ sizeLine; decide, fun T' nT => ?_⟩
    rw [List.length_map]
    have sT := Same.new (o := .tup [V.int m.ep, V.int (m.made : Int), V.int (ws.length : Nat), V.ref PT]) nT
    have dT : upd H3 T' (.tup [V.int m.ep, V.int (m.made : Int), V.int (ws.length : Nat), V.ref PT]) T' = some (.tup [.int m.ep, .int (m.made : Int), .int (ws.length : Int), .ref PT]) := upd_same
    have st4 := st.same sT
    have nT0 : H T' = none := by
      cases z : H T' with
      | none => rfl
      | some o =>
        by_cases c : StR S m T'
        · obtain ⟨o', e⟩ := st.there c
          rw [nT] at e
          cases e
        · have e := fr _ _ z c
          rw [nT] at e
          cases e
    have hW4 := sT.seq hW3
    have dPT4 := sT _ _ dPT
    have hPL4 : ∀ e ∈ PL, _ := fun e me => sT _ _ (hPL e me).1
    have fr4 : ∀ x o, H x = some o → ¬ StR S m x → upd H3 T' (.tup [V.int m.ep, V.int (m.made : Int), V.int (ws.length : Nat), V.ref PT]) x = some o := fun x o ex n => sT _ _ (fr x o ex n)
    have nTR := st.fresh nT
    generalize upd H3 T' (.tup [V.int m.ep, V.int (m.made : Int), V.int (ws.length : Nat), V.ref PT]) = H4 at sT dT st4 hW4 dPT4 hPL4 fr4 ⊢
    refine ⟨_, rfl, S, _, m.dx, _, _, rfl, st4.hS, T.cl_Store, T.na_Store_made, sf_made m, _, _, rfl, rfl, m.dx, _, st4.hS, (by show 10 < 1000; decide), ?_⟩
    obtain ⟨m', hm'⟩ : ∃ m' : SM, m' = { m with made := m.made + 1 } := ⟨_, rfl⟩
    have e5 : putF "_made" (.int ((m.made : Int) + 1)) (sflds m) = sflds m' := by
      rw [hm']
      exact sf_set_made m (m.made + 1)
    show tSeq _ _ _ _ (upd H4 S (.ins a.c_Store m.dx (putF "_made" (.int ((m.made : Int) + 1)) (sflds m))))
    rw [e5]
    have hS5 : upd H4 S (.ins a.c_Store m.dx (sflds m')) S = some (.ins a.c_Store m.dx (sflds m')) := upd_same
    have k5 : ∀ x o, H4 x = some o → x ≠ S → upd H4 S (.ins a.c_Store m.dx (sflds m')) x = some o := fun x o e n => by rw [upd_ne n]; exact e
    have bS : m.bD ≠ S := (ne_of st4.hS st4.hb (by intro z; cases z)).symm
    have mS : m.mD ≠ S := (ne_of st4.hS st4.hM (by intro z; cases z)).symm
    generalize upd H4 S (.ins a.c_Store m.dx (sflds m')) = H5 at hS5 k5 ⊢
    obtain ⟨b, hb⟩ : ∃ b : Blk, b = ⟨T', PT, 0, m.made, PL, ws, true⟩ := ⟨_, rfl⟩
    have tup5 : ∀ c ys, H4 c = some (.tup ys) → H5 c = some (.tup ys) := fun c ys e => k5 _ _ e (ne_of e st4.hS (by intro z; cases z))
    have nk4 : NK H4 (keyB m.ep b) (.ref T') := by
      rw [hb]
      exact .tup dT (.cons (.num _) (.cons (.num _) (.cons (.num _) (.cons (.tup dPT4 (nk_places hPL4)) .nil))))
    have nk5 := NK.at tup5 _ _ nk4
    have kd := keyB_depth m.ep b
    have newk : ∀ c ∈ m.bl, keyB m.ep c ≠ keyB m.ep b := fun c mc z => by
      have := keyB_inj z
      have h2 := st4.ser c mc
      rw [this, hb] at h2
      exact Nat.lt_irrefl _ h2
    have lb : (bxs m.ep m.bl).length ≤ 50 := by unfold bxs; rw [List.length_map]; exact c3
    have lm : (mxs m.ep m.bl).length ≤ 50 := by unfold mxs mx0; rw [List.length_map]; exact Nat.le_trans (List.length_filter_le _ _) c3
    have hb5 := k5 _ _ st4.hb bS
    refine ⟨_, rfl, S, _, m.dx, _, _, rfl, hS5, T.cl_Store, T.na_Store_blocks, by rw [sf_blocks m', hm'], _, rfl, m.bD, T', _, keyB m.ep b, rfl, hb5, st4.bkeys.at tup5, rfl, nk5, kd, fix_bl _, small _ (by omega), ?_⟩
    have tup6 : ∀ c ys, H5 c = some (.tup ys) → upd H5 m.bD (L2.NO a.wd m.bD (L2.putN (bxs m.ep m.bl) (keyB m.ep b) T' (.bl true))) c = some (.tup ys) := fun c ys e => by
      rw [upd_ne (ne_of e hb5 (by intro z; cases z))]
      exact e
    have nWS : W ≠ S := fun z => nWR (by rw [z]; exact .s)
    have nWb : W ≠ m.bD := fun z => nWR (by rw [z]; exact .bd)
    have hW6 : SqL K (upd H5 m.bD (L2.NO a.wd m.bD (L2.putN (bxs m.ep m.bl) (keyB m.ep b) T' (.bl true)))) W (ws.map V.int) := seq_off (seq_keep hW4 fun o e => k5 _ _ e nWS) nWb
    refine ⟨_, rfl, W, _, rfl, .inl hW6, fun W2 nW2 => ?_⟩
    obtain ⟨H6, hH6⟩ : ∃ H6, H6 = upd H5 m.bD (L2.NO a.wd m.bD (L2.putN (bxs m.ep m.bl) (keyB m.ep b) T' (.bl true))) := ⟨_, rfl⟩
    have k6 : ∀ x o, H5 x = some o → x ≠ m.bD → H6 x = some o := fun x o e n => by rw [hH6, upd_ne n]; exact e
    have b6 : H6 m.bD = some (L2.NO a.wd m.bD (L2.putN (bxs m.ep m.bl) (keyB m.ep b) T' (.bl true))) := by rw [hH6]; exact upd_same
    replace tup6 : ∀ c ys, H5 c = some (.tup ys) → H6 c = some (.tup ys) := fun c ys e => by rw [hH6]; exact tup6 c ys e
    have nW2' : H6 W2 = none := by rw [hH6]; exact nW2
    have s7 : Same H6 (upd H6 W2 (.lst (ws.map V.int))) := Same.new nW2'
    have d7 : upd H6 W2 (.lst (ws.map V.int)) W2 = some (.lst (ws.map V.int)) := upd_same
    show tFld _ _ _ _ (upd (upd H5 m.bD (L2.NO a.wd m.bD (L2.putN (bxs m.ep m.bl) (keyB m.ep b) T' (.bl true)))) W2 (.lst (ws.map V.int))) _
    rw [← hH6]
    obtain ⟨H7, hH7⟩ : ∃ H7, H7 = upd H6 W2 (.lst (ws.map V.int)) := ⟨_, rfl⟩
    rw [← hH7] at s7 d7 ⊢
    have mb : m.mD ≠ m.bD := st4.bm.symm
    have hS7 : H7 S = some (.ins a.c_Store m.dx (sflds m')) := s7 _ _ (k6 _ _ hS5 (fun z => bS z.symm))
    have hM7 := s7 _ _ (k6 _ _ (k5 _ _ st4.hM mS) mb)
    have tup7 : ∀ c ys, H4 c = some (.tup ys) → H7 c = some (.tup ys) := fun c ys e => s7 _ _ (tup6 _ _ (tup5 _ _ e))
    refine ⟨_, rfl, S, _, m.dx, _, _, rfl, hS7, T.cl_Store, T.na_Store_memory, by rw [sf_memory m', hm'], _, rfl, m.mD, T', _, keyB m.ep b, rfl, hM7, st4.mkeys.at tup7, rfl, NK.at tup7 _ _ nk4, kd, fix_ref _, small _ (by omega), ?_⟩
    have pb : L2.putN (bxs m.ep m.bl) (keyB m.ep b) T' (.bl true) = bxs m.ep m.bl ++ [(keyB m.ep b, T', V.bl true)] := putN_new (fun x mx => by
      obtain ⟨c, mc, rfl⟩ := List.mem_map.mp mx
      exact newk c mc) _ _
    have pm : L2.putN (mxs m.ep m.bl) (keyB m.ep b) T' (.ref W2) = mxs m.ep m.bl ++ [(keyB m.ep b, T', V.ref W2)] := putN_new (fun x mx => by
      obtain ⟨c, mc, rfl⟩ := List.mem_map.mp mx
      exact newk c (List.mem_filter.mp mc).1) _ _
    obtain ⟨HF, hHF⟩ : ∃ HF, HF = upd H7 m.mD (L2.NO a.wd m.mD (L2.putN (mxs m.ep m.bl) (keyB m.ep b) T' (.ref W2))) := ⟨_, rfl⟩
    have kF : ∀ x o, H4 x = some o → x ≠ S → x ≠ m.bD → x ≠ m.mD → HF x = some o := fun x o e n1 n2 n3 => by
      rw [hHF, upd_ne n3]
      exact s7 _ _ (k6 _ _ (k5 _ _ e n1) n2)
    have kX : ∀ x o, H4 x = some o → (∀ q fs, o ≠ .ins a.c_Store q fs) → (∀ f, o ≠ .ext f) → HF x = some o := fun x o e n1 n2 => kF x o e (ne_of e st4.hS (n1 _ _)) (ne_of e st4.hb (n2 _)) (ne_of e st4.hM (n2 _))
    have FS : HF S = some (.ins a.c_Store m.dx (sflds m')) := by rw [hHF, upd_ne mS.symm]; exact hS7
    have FB : HF m.bD = some (L2.NO a.wd m.bD (bxs m.ep m.bl ++ [(keyB m.ep b, T', V.bl true)])) := by
      rw [hHF, upd_ne mb.symm, ← pb]
      exact s7 _ _ b6
    have FM : HF m.mD = some (L2.NO a.wd m.mD (mxs m.ep m.bl ++ [(keyB m.ep b, T', V.ref W2)])) := by rw [hHF, upd_same, pm]
    have W2m : W2 ≠ m.mD := (ne_of_none (k6 _ _ (k5 _ _ st4.hM mS) mb) nW2').symm
    have FW : HF W2 = some (.lst (ws.map V.int)) := by rw [hHF, upd_ne W2m]; exact d7
    have nW20 : H W2 = none := by
      cases z : H W2 with
      | none => rfl
      | some o =>
        by_cases c : StR S m W2
        · obtain ⟨o', e⟩ := st4.there c
          by_cases c1 : W2 = S
          · rw [c1] at nW2'
            rw [k6 _ _ hS5 (fun z => bS z.symm)] at nW2'
            cases nW2'
          · by_cases c2 : W2 = m.bD
            · rw [c2, b6] at nW2'
              cases nW2'
            · rw [k6 _ _ (k5 _ _ e c1) c2] at nW2'
              cases nW2'
        · have e := fr4 _ _ z c
          have c1 : W2 ≠ S := fun y => c (by rw [y]; exact .s)
          have c2 : W2 ≠ m.bD := fun y => c (by rw [y]; exact .bd)
          rw [k6 _ _ (k5 _ _ e c1) c2] at nW2'
          cases nW2'
    have fin : Stor a HF S (m.put ⟨T', PT, W2, m.made, PL, ws, true⟩) := by
      have kb : keyB m.ep b = keyB m.ep ⟨T', PT, W2, m.made, PL, ws, true⟩ := by rw [hb]; rfl
      rw [kb] at FB FM
      refine ⟨?_, kX _ _ st4.hm (fun q fs z => nomatch z) (fun f z => nomatch z), kX _ _ st4.hs (fun q fs z => nomatch z) (fun f z => nomatch z), fun d md => ?_, st4.su, ?_, ?_, st4.bm, fun c mc => ?_, st4.nd, st4.m0, fun c mc => ?_, ?_, fun c mc => ?_, ?_, fun c mc => ?_, st4.op⟩
      · rw [FS, hm']
        rfl
      · have e := psi_add m.bl ⟨T', PT, W2, m.made, PL, ws, true⟩ rfl (fun q mq => (rPL q mq).2) d
        show SpD a HF (m.sp d).1 (m.sp d).2 18 m.rows (phiM (m.bl ++ [⟨T', PT, W2, m.made, PL, ws, true⟩]) d)
        rw [← e]
        obtain ⟨dx', low, M, e1, e2, r⟩ := st4.sp d md
        refine ⟨dx', low, M, kF _ _ e1 (ne_of e1 st4.hS fun z => ?_) (ne_of e1 st4.hb (by intro z; cases z)) (ne_of e1 st4.hM (by intro z; cases z)), kX _ _ e2 (fun q fs z => nomatch z) (fun f z => nomatch z), r⟩
        injection z with _ _ z
        exact absurd (congrArg List.length z) (by show ¬ 4 = 10; decide)
      · show HF m.bD = some (L2.NO a.wd m.bD (bxs m.ep (m.bl ++ [⟨T', PT, W2, m.made, PL, ws, true⟩])))
        unfold bxs at FB ⊢
        rw [List.map_append]
        exact FB
      · show HF m.mD = some (L2.NO a.wd m.mD (mxs m.ep (m.bl ++ [⟨T', PT, W2, m.made, PL, ws, true⟩])))
        unfold mxs mx0 at FM ⊢
        rw [List.filter_append, List.map_append]
        exact FM
      · rcases List.mem_append.mp mc with mc | mc
        · have h1 := st4.blk c mc
          exact ⟨kX _ _ h1.t (fun q fs z => nomatch z) (fun f z => nomatch z), kX _ _ h1.pt (fun q fs z => nomatch z) (fun f z => nomatch z), fun e me => kX _ _ (h1.q e me) (fun q fs z => nomatch z) (fun f z => nomatch z), fun z => kX _ _ (h1.w z) (fun q fs z => nomatch z) (fun f z => nomatch z)⟩
        · rw [List.mem_singleton.mp mc]
          exact ⟨kX _ _ dT (fun q fs z => nomatch z) (fun f z => nomatch z), kX _ _ dPT4 (fun q fs z => nomatch z) (fun f z => nomatch z), fun e me => kX _ _ (hPL4 e me) (fun q fs z => nomatch z) (fun f z => nomatch z), fun _ => FW⟩
      · rcases List.mem_append.mp mc with mc | mc
        · have := st4.ser c mc
          show c.s < m.made + 1
          omega
        · rw [List.mem_singleton.mp mc]
          exact Nat.lt_succ_self _
      · show ((m.bl ++ [(⟨T', PT, W2, m.made, PL, ws, true⟩ : Blk)]).map fun c => c.s).Nodup
        rw [List.map_append, List.nodup_append]
        refine ⟨st4.un, by simp, fun x mx y my z => ?_⟩
        obtain ⟨c, mc, e⟩ := List.mem_map.mp mx
        have := st4.ser c mc
        rw [List.mem_singleton.mp my] at z
        have z2 : x = m.made := z
        omega
      · rcases List.mem_append.mp mc with mc | mc
        · exact st4.row c mc
        · rw [List.mem_singleton.mp mc]
          exact fun e me => ⟨(hns _ (by rw [← ePL]; exact List.mem_map.mpr ⟨e, me, rfl⟩)).1, (rPL e me).1⟩
      · show ((m.bl ++ [(⟨T', PT, W2, m.made, PL, ws, true⟩ : Blk)]).flatMap fun (b : Blk) => b.L.map fun q => q.2).Nodup
        rw [List.flatMap_append, List.nodup_append]
        refine ⟨st4.dis, ?_, fun x mx y my z => ?_⟩
        · rw [List.flatMap_cons, List.flatMap_nil, List.append_nil]
          have p : (PL.map fun e => e.2.1).Pairwise (· < ·) := by rw [ePL]; exact asc
          unfold List.Nodup
          rw [List.pairwise_map] at p ⊢
          exact p.imp fun h z => by rw [z] at h; exact absurd h (Int.lt_irrefl _)
        · rw [List.flatMap_cons, List.flatMap_nil, List.append_nil] at my
          obtain ⟨c, mc, mx⟩ := List.mem_flatMap.mp mx
          obtain ⟨q, mq, e⟩ := List.mem_map.mp mx
          obtain ⟨q', mq', e'⟩ := List.mem_map.mp my
          have := phi_zero.mp (rPL q' mq').2
          refine this ⟨c, mc, q, mq, ?_⟩
          rw [e, z, ← e']
      · rcases List.mem_append.mp mc with mc | mc
        · exact st4.asc c mc
        · rw [List.mem_singleton.mp mc]
          show (PL.map fun e => e.2.1).Pairwise (· < ·)
          rw [ePL]
          exact asc
    have f2 : PL.length = m.data + m.par := by
      have := congrArg List.length ePL
      rw [List.length_map] at this
      exact this.trans ln
    have f3 : ∀ e ∈ PL, e.2.1 ∉ av := fun e me => by
      exact (hns _ (by rw [← ePL]; exact List.mem_map.mpr ⟨e, me, rfl⟩)).2
    have f4 : ∀ x o, H x = some o → ¬ StR S m x → HF x = some o := fun x o ex n => kF x o (fr4 x o ex n) (fun y => n (by rw [y]; exact .s)) (fun y => n (by rw [y]; exact .bd)) fun y => n (by rw [y]; exact .md)
    have f5 : ∀ x, StR S (m.put ⟨T', PT, W2, m.made, PL, ws, true⟩) x → StR S m x ∨ H x = none := fun x r => by
      cases r with
      | s => exact .inl .s
      | ml => exact .inl .ml
      | spd => exact .inl .spd
      | bd => exact .inl .bd
      | md => exact .inl .md
      | s1 d md => exact .inl (.s1 d md)
      | s2 d md => exact .inl (.s2 d md)
      | t c mc =>
        rcases List.mem_append.mp mc with mc | mc
        · exact .inl (.t c mc)
        · rw [List.mem_singleton.mp mc]; exact .inr nT0
      | pt c mc =>
        rcases List.mem_append.mp mc with mc | mc
        · exact .inl (.pt c mc)
        · rw [List.mem_singleton.mp mc]; exact .inr nPT
      | w c mc z =>
        rcases List.mem_append.mp mc with mc | mc
        · exact .inl (.w c mc z)
        · rw [List.mem_singleton.mp mc]; exact .inr nW20
      | q c e mc me =>
        rcases List.mem_append.mp mc with mc | mc
        · exact .inl (.q c e mc me)
        · rw [List.mem_singleton.mp mc] at me
          exact .inr (hPL e me).2
    subst hHF
    exact ⟨_, rfl, kQ ⟨T', PT, W2, m.made, PL, ws, true⟩ _ fin rfl rfl rfl f2 f3 f4 f5⟩
theorem sc_Store_add_member : FnScope ["self", "disk"] ["self", "disk"] (defScope s_Store_add_member) := ⟨rfl, rfl, rfl, by decide +kernel, rfl, by decide +kernel, by decide +kernel⟩
theorem ok_Store_add_member (T : Txt w K mg a) : FnOk P w K mg base (L2.CX P w) 3 a.f_Store_add_member a.d_Store_add_member ["self", "disk"] (sp_Store_add_member K a) := by
  refine T.F_Store_add_member.okX sc_Store_add_member (fun vs H Q E h => ?len) (fun cdv A outer s H vs Q E hr h => ?body)
  case len =>
    exact sp_Store_add_member_len h
  case body =>
    obtain ⟨S, m, d, rfl, h, d0, d8, l8, r18, r100, kE, kQ⟩ := h
    have hw := T.hw
    subst hw
    refine ⟨_, (pss_cons (ps_if (pt_cmp (pc_din (hu_of hr) (pv 1) (pe_fld (pv 0) rfl)))
      (pss_one (ps_raise rfl (takes_of rfl rfl rfl rfl) (pmk_own PySem.F.excBase_ValueError T.x_InvalidArgument T.g_InvalidArgument T.k_InvalidArgument (raises_own T.b_InvalidArgument T.t_InvalidArgument) (by exact rfl))))
      pss_nil)
      (pss_cons (ps_fld (pv 0) (pe_callB cr_sorted (by rfl) T.n_sorted (by decide +kernel) (pa_cons (pe_lst (StX.pa_star (pe_fld (pv 0) rfl) (pa_cons (pv 1) pa_nil))) pa_nil)) rfl)
      (pss_one (ps_dput (hu_of hr) (pe_fld (pv 0) rfl) (pv 1) (pe_make T.mk_Space (ok_Space_init T) (hr.mono (by decide)) rfl T.g_Space T.d_Space_init .nil pass0 (pa_cons (pe_fld (pv 0) rfl) (pa_cons (pe_const T.g_FIRST_ROW) pa_nil))) rfl)))), ?_⟩
    by_cases md : d ∈ m.ms
    · exact ⟨_, rfl, _, rfl, S, _, m.dx, _, _, rfl, h.hS, T.cl_Store, T.na_Store_spaces, sf_spaces m, m.spd, _, rfl, h.spget md, _, rfl, iteT (kE md _ (Same.refl _))⟩
    have no : d ∉ m.od := fun z => md (h.op.mem_iff.mp z)
    have dg : DGet H m.spd (.int d) none := by
      have := DGet.k (k := Sum.inl d) h.hs
      rw [val_no (f := fun d => (m.sp d).1) no] at this
      exact this
    refine ⟨_, rfl, _, rfl, S, _, m.dx, _, _, rfl, h.hS, T.cl_Store, T.na_Store_spaces, sf_spaces m, m.spd, _, rfl, dg, _, rfl, iteF ?_⟩
    have lo : m.od.length ≤ 8 := by rw [h.op.length_eq]; exact l8
    refine ⟨_, rfl, S, _, m.dx, _, _, rfl, h.hS, T.cl_Store, T.na_Store_members, sf_members m, m.mL, _, rfl, .inr (SqL.of h.hm), _, rfl, Nat.le_of_lt (small _ (by rw [List.length_append, List.length_map]; show m.ms.length + 1 ≤ 60000; omega)), fun A nA => ?_⟩
    have eA : m.ms.map V.int ++ [V.int d] = (m.ms ++ [d]).map V.int := by rw [List.map_append]; rfl
    rw [eA]
    refine ⟨A, m.ms ++ [d], rfl, SqL.of upd_same, by rw [List.length_append]; show m.ms.length + 1 < 64; omega, fun ms' M perm asc nM => ?_⟩
    have s2 := (Same.new (o := .lst ((m.ms ++ [d]).map V.int)) nA).trans (Same.new (o := .lst (ms'.map V.int)) nM)
    have nM0 := same_none (Same.new (o := .lst ((m.ms ++ [d]).map V.int)) nA) nM
    have dM : upd (upd H A (.lst ((m.ms ++ [d]).map V.int))) M (.lst (ms'.map V.int)) M = some (.lst (ms'.map V.int)) := upd_same
    generalize upd (upd H A (.lst ((m.ms ++ [d]).map V.int))) M (.lst (ms'.map V.int)) = H2 at s2 dM ⊢
    have MS : M ≠ S := (ne_of_none h.hS nM0).symm
    refine ⟨_, rfl, S, _, m.dx, _, rfl, s2 _ _ h.hS, T.cl_Store, T.na_Store_members, (by show 10 < 1000; decide), ?_⟩
    have e3 : putF "members" (.ref M) (sflds m) = sflds { m with mL := M } := sf_set_members m M
    obtain ⟨m1, hm1⟩ : ∃ m1 : SM, m1 = { m with mL := M } := ⟨_, rfl⟩
    rw [e3, ← hm1]
    have k3 : ∀ x o, H x = some o → x ≠ S → upd H2 S (.ins a.c_Store m.dx (sflds m1)) x = some o := fun x o e n => by
      rw [upd_ne n]
      exact s2 _ _ e
    have hS3 : upd H2 S (.ins a.c_Store m.dx (sflds m1)) S = some (.ins a.c_Store m.dx (sflds m1)) := upd_same
    have dM3 : upd H2 S (.ins a.c_Store m.dx (sflds m1)) M = some (.lst (ms'.map V.int)) := by rw [upd_ne MS]; exact dM
    have nk3 : ∀ {x}, upd H2 S (.ins a.c_Store m.dx (sflds m1)) x = none → H x = none := fun {x} n => by
      by_cases c : x = S
      · rw [c, upd_same] at n
        cases n
      · rw [upd_ne c] at n
        exact same_none s2 n
    generalize upd H2 S (.ins a.c_Store m.dx (sflds m1)) = H3 at k3 hS3 dM3 nk3 ⊢
    clear dM s2 nM
    refine ⟨_, rfl, S, _, m.dx, _, _, rfl, hS3, T.cl_Store, T.na_Store_rows, (by rw [sf_rows m1, hm1]), fun po qo npo nqo npq => ⟨po, qo, 18, m.rows, rfl, upd_same, r18, fun e H6 ne sp6 fr6 => ⟨rfl, ?_⟩⟩⟩
    have s6 : ∀ b o, H3 b = some o → H6 b = some o := fun b o e => fr6 b o (by rw [upd_ne (ne_of_none e npo), upd_ne (ne_of_none e nqo)]; exact e) (ne_of_none e npo)
    have ep : e ≠ po := fun z => by rw [z, upd_same] at ne; cases ne
    have ne3 : H3 e = none := by
      by_cases z : e = qo
      · rw [z]; exact nqo
      · rw [upd_ne ep, upd_ne z] at ne
        exact ne
    have npo0 := nk3 npo
    have ne0 := nk3 ne3
    have k6 : ∀ x o, H x = some o → x ≠ S → H6 x = some o := fun x o e n => s6 _ _ (k3 x o e n)
    have pS : m.spd ≠ S := ne_of h.hs h.hS (by intro z; cases z)
    refine ⟨_, rfl, S, _, m.dx, _, _, rfl, s6 _ _ hS3, T.cl_Store, T.na_Store_spaces, (by rw [sf_spaces m1, hm1]), _, rfl, m.spd, _, rfl, DPut.k (k := Sum.inl d) (k6 _ _ h.hs pS) (small _ (by rw [List.length_map]; omega)), ?_⟩
    obtain ⟨sf, hsf⟩ : ∃ sf : Int → Addr × Addr, sf = fun x => if x = d then (po, e) else m.sp x := ⟨_, rfl⟩
    have sfd : sf d = (po, e) := by rw [hsf]; exact if_pos rfl
    have sfo : ∀ x, x ≠ d → sf x = m.sp x := fun x n => by rw [hsf]; exact if_neg n
    have emap : (m.od.map fun x => ((Sum.inl x : Key), V.ref (m.sp x).1)) = m.od.map fun x => ((Sum.inl x : Key), V.ref (sf x).1) := List.map_congr_left fun x mx => by rw [sfo x fun z => no (by rw [← z]; exact mx)]
    have eput : putK (m.od.map fun x => ((Sum.inl x : Key), V.ref (m.sp x).1)) (Sum.inl d) (V.ref po) = (m.od ++ [d]).map fun x => ((Sum.inl x : Key), V.ref (sf x).1) := by
      rw [emap, ← val_sp_some (f := fun x => (sf x).1) no, sfd]
    show Q V.non (upd H6 m.spd (.dK (putK (m.od.map fun x => ((Sum.inl x : Key), V.ref (m.sp x).1)) (Sum.inl d) (V.ref po))))
    rw [eput]
    have k7 : ∀ x o, H x = some o → x ≠ S → x ≠ m.spd → upd H6 m.spd (.dK ((m.od ++ [d]).map fun x => ((Sum.inl x : Key), V.ref (sf x).1))) x = some o := fun x o e n1 n2 => by
      rw [upd_ne n2]
      exact k6 x o e n1
    have kx : ∀ x o, H x = some o → (∀ q fs, o = .ins a.c_Store q fs → fs.length = 10 → False) → (∀ kv, o ≠ .dK kv) → upd H6 m.spd (.dK ((m.od ++ [d]).map fun x => ((Sum.inl x : Key), V.ref (sf x).1))) x = some o := fun x o e n1 n2 => k7 x o e (ne_of e h.hS fun z => n1 _ _ z rfl) (ne_of e h.hs (n2 _))
    have nt : ∀ {o : HO}, (∀ q fs, o ≠ .ins a.c_Store q fs) → (∀ q fs, o = .ins a.c_Store q fs → fs.length = 10 → False) := fun n q fs z _ => n q fs z
    have dM7 : upd H6 m.spd (.dK ((m.od ++ [d]).map fun x => ((Sum.inl x : Key), V.ref (sf x).1))) M = some (.lst (ms'.map V.int)) := by
      rw [upd_ne (ne_of_none h.hs nM0).symm]
      exact s6 _ _ dM3
    have hS7 : upd H6 m.spd (.dK ((m.od ++ [d]).map fun x => ((Sum.inl x : Key), V.ref (sf x).1))) S = some (.ins a.c_Store m.dx (sflds m1)) := by
      rw [upd_ne pS.symm]
      exact s6 _ _ hS3
    have dP7 : upd H6 m.spd (.dK ((m.od ++ [d]).map fun x => ((Sum.inl x : Key), V.ref (sf x).1))) m.spd = some (.dK ((m.od ++ [d]).map fun x => ((Sum.inl x : Key), V.ref (sf x).1))) := upd_same
    have sp7 : SpD a (upd H6 m.spd (.dK ((m.od ++ [d]).map fun x => ((Sum.inl x : Key), V.ref (sf x).1)))) po e 18 m.rows (fun _ => 0) := sp6.keep (fun o e => by rw [upd_ne (ne_of_none h.hs npo0).symm]; exact e) fun o e => by rw [upd_ne (ne_of_none h.hs ne0).symm]; exact e
    generalize upd H6 m.spd (.dK ((m.od ++ [d]).map fun x => ((Sum.inl x : Key), V.ref (sf x).1))) = H7 at k7 kx dM7 hS7 dP7 sp7 ⊢
    have mem' : ∀ x, x ∈ ms' ↔ x ∈ m.ms ∨ x = d := fun x => by rw [perm.mem_iff, List.mem_append, List.mem_singleton]
    have ms_nd : m.ms.Nodup := h.nd.imp fun h => Int.ne_of_lt h
    have nodup : ms'.Nodup := perm.nodup_iff.mpr (List.nodup_append.mpr ⟨ms_nd, by simp, fun x mx y my z => md (by rw [← List.mem_singleton.mp my, ← z]; exact mx)⟩)
    have ned : ∀ x ∈ m.ms, x ≠ d := fun x mx z => md (by rw [← z]; exact mx)
    have offp : ∀ x ∈ m.ms, (m.sp x).1 ≠ po ∧ (m.sp x).2 ≠ e := fun x mx => by
      obtain ⟨_, _, _, g1, g2, _⟩ := h.sp x mx
      exact ⟨ne_of_none g1 npo0, ne_of_none g2 ne0⟩
    refine kQ md { m with mL := M, ms := ms', od := m.od ++ [d], sp := sf } H7 ⟨?_, dM7, dP7, fun x mx => ?_, fun x mx y my z => ?_, kx _ _ h.hb (nt fun q fs z => nomatch z) (fun kv z => nomatch z), kx _ _ h.hM (nt fun q fs z => nomatch z) (fun kv z => nomatch z), h.bm, fun b mb => ?_, (asc.and nodup).imp fun h => by omega, fun x mx => ?_, h.ser, h.un, fun b mb q mq => ⟨(mem' _).mpr (.inl (h.row b mb q mq).1), (h.row b mb q mq).2⟩, h.dis, h.asc, (h.op.append_right [d]).trans perm.symm⟩ ⟨rfl, rfl, rfl, rfl, rfl, rfl⟩ rfl perm (fun x o ex n => k7 x o ex (fun z => n (by rw [z]; exact .s)) fun z => n (by rw [z]; exact .spd)) fun x r => ?_
    · rw [hS7, hm1]
      rfl
    · show SpD a H7 (sf x).1 (sf x).2 18 m.rows (phiM m.bl x)
      rcases (mem' x).mp mx with mx | rfl
      · rw [sfo x (ned x mx)]
        obtain ⟨dx', low, M', g1, g2, g3⟩ := h.sp x mx
        refine ⟨dx', low, M', kx _ _ g1 (fun q fs z l => ?_) (fun kv z => nomatch z), k7 _ _ g2 (ne_of g2 h.hS (by intro z; cases z)) (ne_of g2 h.hs fun z => ?_), g3⟩
        · injection z with _ _ z
          rw [← z] at l
          exact absurd l (by show ¬ 4 = 10; decide)
        · have z := HO.dK.inj z
          have m1 : ((Sum.inl x : Key), V.ref (m.sp x).1) ∈ kvM M' := by
            rw [z]
            exact List.mem_map.mpr ⟨x, h.op.mem_iff.mpr mx, rfl⟩
          obtain ⟨q, _, eq⟩ := List.mem_map.mp m1
          cases eq
      · rw [sfd]
        have e0 : phiM m.bl x = fun _ => 0 := by
          funext r
          refine phi_zero.mpr ?_
          rintro ⟨b, mb, q, mq, eq⟩
          have := (h.row b mb q mq).1
          rw [eq] at this
          exact md this
        rw [e0]
        exact sp7
    · change (sf x).1 = (sf y).1 ∨ (sf x).2 = (sf y).2 at z
      rcases (mem' x).mp mx with mx1 | ex
      · rcases (mem' y).mp my with my1 | ey
        · rw [sfo x (ned x mx1), sfo y (ned y my1)] at z
          exact h.su x mx1 y my1 z
        · rw [ey, sfo x (ned x mx1), sfd] at z
          exact absurd z fun q => q.elim (offp x mx1).1 (offp x mx1).2
      · rcases (mem' y).mp my with my1 | ey
        · rw [ex, sfo y (ned y my1), sfd] at z
          exact absurd z fun q => q.elim (fun q => (offp y my1).1 q.symm) fun q => (offp y my1).2 q.symm
        · rw [ex, ey]
    · have hb := h.blk b mb
      exact ⟨kx _ _ hb.t (nt fun q fs z => nomatch z) (fun kv z => nomatch z), kx _ _ hb.pt (nt fun q fs z => nomatch z) (fun kv z => nomatch z), fun e me => kx _ _ (hb.q e me) (nt fun q fs z => nomatch z) (fun kv z => nomatch z), fun z => kx _ _ (hb.w z) (nt fun q fs z => nomatch z) (fun kv z => nomatch z)⟩
    · rcases (mem' x).mp mx with mx | rfl
      · exact h.m0 x mx
      · exact ⟨d0, d8⟩
    · cases r with
      | s => exact .inl .s
      | ml => exact .inr nM0
      | spd => exact .inl .spd
      | bd => exact .inl .bd
      | md => exact .inl .md
      | s1 y my =>
        rcases (mem' y).mp my with my | rfl
        · show StR S m (sf y).1 ∨ _
          rw [sfo y (ned y my)]
          exact .inl (.s1 y my)
        · show _ ∨ H (sf y).1 = none
          rw [sfd]
          exact .inr npo0
      | s2 y my =>
        rcases (mem' y).mp my with my | rfl
        · show StR S m (sf y).2 ∨ _
          rw [sfo y (ned y my)]
          exact .inl (.s2 y my)
        · show _ ∨ H (sf y).2 = none
          rw [sfd]
          exact .inr ne0
      | t b mb => exact .inl (.t b mb)
      | pt b mb => exact .inl (.pt b mb)
      | w b mb z => exact .inl (.w b mb z)
      | q b e mb me => exact .inl (.q b e mb me)
theorem sc_piece_at : FnScope ["known", "places", "number", "factors", "column", "factor", "word"] ["known", "places", "number"] (defScope s_piece_at) := ⟨rfl, rfl, rfl, by decide +kernel, rfl, by decide +kernel, by decide +kernel⟩
theorem ok_piece_at (T : Txt w K mg a) : FnOk P w K mg base CX0 4 a.f_piece_at a.d_piece_at ["known", "places", "number"] (sp_piece_at K a) := by
  refine T.F_piece_at.ok sc_piece_at (fun vs H Q E h => ?len) (fun cdv A outer s H vs Q E hr h => ?body)
  case len =>
    exact sp_piece_at_len h
  case body =>
    obtain ⟨R, P, F, ws, x, n, rfl, hR, hP, hap, hlen, hne, h8, hn, hrow, k⟩ := h
    refine ⟨_, (pss_cons (ps_set (i := 3) sc_piece_at.nd rfl (Or.inr rfl) (pe_call (ok_weights T) (hr.mono (by decide)) rfl T.g_weights T.F_weights.kp T.d_weights .nil pass0 (pa_cons (pv 1) (pa_cons (pv 2) pa_nil))))
      (pss_one (ps_ret (pe_lc (own := [("column", 4)]) (g := (gName 4)) (by rfl) sc_piece_at.nd (pi_zipS (by rfl) T.n_zip (pv 0)) (blkOk_by (own := [("column", 4)]) (N := ["known", "places", "number", "factors", "column", "factor", "word"]) (sc := defScope s_piece_at) (by decide +kernel))
      (fun _ _ _ _ _ => (pg_name (i := 4) sc_piece_at.nd rfl (Or.inl rfl))) (fun _ _ _ _ _ => pts_nil) (fun _ _ _ _ _ => (pe_op op_mod (pe_callB (by exact cr_sum rfl : CallR _ _ (rSum K)) (by rfl) T.n_sum (by decide +kernel) (pa_cons (pe_lc (own := [("factor", 5), ("word", 6)]) (g := (gTup K 2 (gCons (gName 5) (gCons (gName 6) gNil)))) (by rfl) sc_piece_at.nd (by exact pi_zipM (by rfl) T.n_zip (pa_cons (pv 3) (pa_cons (pv 4) pa_nil)) : PI _ _ _ (iZipM K _)) (blkOk_by (own := [("factor", 5), ("word", 6)]) (N := ["known", "places", "number", "factors", "column", "factor", "word"]) (by kernel_rfl))
      (fun _ _ _ _ _ => (pg_tup rfl (pgs_cons (pg_name (i := 5) sc_piece_at.nd rfl (Or.inl rfl)) (pgs_cons (pg_name (i := 6) sc_piece_at.nd rfl (Or.inl rfl)) pgs_nil)))) (fun _ _ _ _ _ => pts_nil) (fun _ _ _ _ _ => (pe_op op_mul (pv 5) (pv 6)))) pa_nil)) (pe_const T.g_PRIME))))))), ?_⟩
    refine ⟨_, rfl, _, rfl, P, ws, x, rfl, hP, hap, by omega, fun D1 H1 s1 n1 h1 => ?_⟩
    have R1 := hR.same s1
    have wl : (weightsM ws x).length = F.length := by rw [weightsM_length, hlen]
    have hr : (F.map (·.1)).map V.ref = refs F := by simp [refs]
    refine ⟨_, rfl, R, F.map (·.1), rfl, by rw [hr]; exact R1.1, by simpa using hne, by simpa using h8, fun l hl => ?_, ?_⟩
    · obtain ⟨e, me, rfl⟩ := List.mem_map.1 hl
      exact ⟨_, R1.2 e me⟩
    refine fun D new => lc_it (walk_cols hne hrow) (fun i H' => Same H1 H' ∧ H' D = some (.lst (((pieceM ws (snds F) x n).take i).map V.int))) ⟨Same.new new, upd_same⟩ (fun i H' _ q e m => q.1.seq (R1.2 e m)) ?_ ?_
    · rintro i y Ha Hb hi ⟨s2, hD⟩ ⟨T, rfl, hT, rfl⟩
      refine ⟨rfl, ?_⟩
      have s3 : Same Ha (upd Ha T (.tup (((snds F).map fun r => r.getD i 0).map V.int))) := Same.new hT
      have d1 := s3 _ _ (s2 _ _ h1)
      have cl : ((snds F).map fun r => r.getD i 0).length = F.length := by simp [snds]
      refine ⟨_, rfl, _, rfl, D1, T, _, _, rfl, SqL.of d1, SqT.of upd_same, fun G nG => lc_it (walk_zipM (n := F.length) (by rw [List.length_map]; exact wl) (by rw [List.length_map]; exact cl)) (fun j H' => Same (upd Ha T (.tup (((snds F).map fun r => r.getD i 0).map V.int))) H' ∧ H' G = some (.lst (((List.range j).map fun j => (weightsM ws x).getD j 0 * ((snds F).map fun r => r.getD i 0).getD j 0).map V.int)))
        ⟨Same.new nG, upd_same⟩ (fun i H' _ q => ⟨q.1.seq (SqL.of d1), q.1.tup (SqT.of upd_same)⟩) ?_ ?_⟩
      · rintro j y Hc Hd hj ⟨s4, hG⟩ ⟨t, u, v, rfl, ht, rfl, hu, hv⟩
        obtain ⟨c, hc, rfl⟩ := int_item hu
        obtain ⟨d, hd, rfl⟩ := int_item hv
        have s5 : Same Hc (upd Hc t (.tup [V.int c, V.int d])) := Same.new ht
        refine ⟨t, _, rfl, SqT.of upd_same, rfl, _, _, rfl, _, _, rfl, rfl, ?_⟩
        have wc : 0 ≤ c ∧ c < 65521 := by
          have e1 := weightsM_get (x := x) (ws := ws) (i := j) (by omega)
          rw [hc] at e1
          rw [Option.some.inj e1]
          exact wgt_word _ _ _
        refine ⟨rfl, _, rfl, _, rfl, _, _, rfl, rfl, .inl ⟨by omega, by omega⟩, _, s5 _ _ hG, small _ (by simp; omega), fun b o e => ?_, ?_⟩
        · rw [upd_ne (ne_of_none e nG)]
          exact s5 _ _ (s4 b o e)
        · rw [upd_same, List.range_succ, List.map_append, List.map_append]
          have e1 : (weightsM ws x).getD j 0 = c := getD_item hc
          have e2 : ((snds F).map fun r => r.getD i 0).getD j 0 = d := getD_item hd
          show some (HO.lst (_ ++ [V.int (c * d)])) = some (HO.lst (_ ++ [V.int ((weightsM ws x).getD j 0 * ((snds F).map fun r => r.getD i 0).getD j 0)]))
          rw [e1, e2]
      · rintro H3 ⟨s4, hG⟩
        refine ⟨G, _, rfl, SqL.of hG, _, _, rfl, rfl, (by show (0 : Int) < 65521; decide), ?_⟩
        have e : ((List.range F.length).map fun j => (weightsM ws x).getD j 0 * ((snds F).map fun r => r.getD i 0).getD j 0).sum % 65521 = valM ws ((snds F).map fun r => r.getD i 0) x := by
          unfold valM dotR
          rw [wl]
        have g : (pieceM ws (snds F) x n)[i]? = some (valM ws ((snds F).map fun r => r.getD i 0) x) := by simp [pieceM, hi]
        refine ⟨_, s4 _ _ (s3 _ _ hD), small _ (by simp [pieceM]; omega), fun b o e' => ?_, ?_⟩
        · rw [upd_ne (ne_of_none e' new)]
          exact s4 _ _ (s3 _ _ (s2 b o e'))
        · rw [upd_same, take_snoc g, List.map_append]
          show some (HO.lst (_ ++ [V.int (((List.range F.length).map fun j => (weightsM ws x).getD j 0 * ((snds F).map fun r => r.getD i 0).getD j 0).sum % 65521)])) = _
          rw [e]
          rfl
    · rintro H' ⟨s2, hD⟩
      have e : (pieceM ws (snds F) x n).take n = pieceM ws (snds F) x n := List.take_of_length_le (by simp [pieceM])
      rw [e] at hD
      exact k D H' (s1.trans s2) (Classical.byContradiction fun q => by cases q' : H D with | none => exact q q' | some o => exact absurd (s1 _ _ q') (by rw [new]; exact fun z => nomatch z)) hD
theorem sc_good_piece : FnScope ["images", "place", "stamp", "size", "disk", "row", "found"] ["images", "place", "stamp", "size"] (defScope s_good_piece) := ⟨rfl, rfl, rfl, by decide +kernel, rfl, by decide +kernel, by decide +kernel⟩
theorem ok_good_piece (T : Txt w K mg a) : FnOk P w K mg base CX0 4 a.f_good_piece a.d_good_piece ["images", "place", "stamp", "size"] (sp_good_piece K a) := by
  refine T.F_good_piece.ok sc_good_piece (fun vs H Q E h => ?len) (fun cdv A outer s H vs Q E hr h => ?body)
  case len =>
    exact sp_good_piece_len h
  case body =>
    exact h.2.elim
theorem sc_law_add : FnScope ["store", "disk", "e"] ["store", "disk"] (defScope s_law_add) := ⟨rfl, rfl, rfl, by decide +kernel, rfl, by decide +kernel, by decide +kernel⟩
theorem ok_law_add (T : Txt w K mg a) : FnOk P w K mg base CX0 4 a.f_law_add a.d_law_add ["store", "disk"] (sp_law_add K a) := by
  refine T.F_law_add.ok sc_law_add (fun vs H Q E h => ?len) (fun cdv A outer s H vs Q E hr h => ?body)
  case len =>
    exact sp_law_add_len h
  case body =>
    obtain ⟨S, m, d, rfl, h, d0, d8, l8, r18, r100, kE, kQ⟩ := h
    refine ⟨_, (pss_one (ps_try_as (i := 2) rfl rfl sc_law_add.nd rfl rfl ⟨rfl, by decide, .inl T.g_PoolError⟩ takes0
      (fun W pn xe tk _ => (pss_one (ps_ret (pe_cmpR op_isN (pe_methT (pv 0) T.cl_Store T.m_Store_add_member (ok_Store_add_member T) (hr.mono (by decide)) T.d_Store_add_member (fun σ => passAt tk σ) (pa_cons (pv 1) pa_nil)) pe_non (nomark _)))))
      (fun a oe cls d pn hz hf => (pss_one (ps_ret (pe_op op_add pe_int (pe_callTy call_int1 (by rfl) T.n_int (by decide +kernel) (pa_cons (pe_callB (call_isE' hz hf) (by rfl) T.n_isinstance (by decide +kernel) (pa_cons (pv 2) (pa_cons (pe_glob (v := .ref _) rfl T.g_InvalidArgument rfl) pa_nil))) pa_nil)))))))), ?_⟩
    refine ⟨_, rfl, S, m.dx, _, rfl, h.hS, by kernel_rfl, _, rfl, S, m, d, rfl, h, d0, d8, l8, r18, r100, fun md H1 s1 => ?_, fun md m' H1 st cm bl pm fr up => ?_⟩
    · refine ⟨true, T.u_InvalidArgument_PoolError, fun _ ad hb => ?_, fun z => Bool.noConfusion z⟩
      exact ⟨_, rfl, _, rfl, rfl, T.E_InvalidArgument, _, _, true, rfl, fun _ z => z, T.i_InvalidArgument_InvalidArgument, .inr ⟨true, rfl, _, _, rfl, rfl, kE md _ s1⟩⟩
    · exact ⟨rfl, kQ md m' H1 st cm bl pm fr up⟩
theorem sc_law_put : FnScope ["store", "e"] ["store"] (defScope s_law_put) := ⟨rfl, rfl, rfl, by decide +kernel, rfl, by decide +kernel, by decide +kernel⟩
theorem ok_law_put (T : Txt w K mg a) : FnOk P w K mg base CX0 4 a.f_law_put a.d_law_put ["store"] (sp_law_put K a) := by
  refine T.F_law_put.ok sc_law_put (fun vs H Q E h => ?len) (fun cdv A outer s H vs Q E hr h => ?body)
  case len =>
    exact sp_law_put_len h
  case body =>
    obtain ⟨S, m, ims, rfl, h, hI, i100, r100, l8, d1, w8, kE, kQ⟩ := h
    refine ⟨_, (pss_one (ps_try_as (i := 1) rfl rfl sc_law_put.nd rfl rfl ⟨rfl, by decide, .inl T.g_PoolError⟩ takes0
      (fun W pn xe tk _ => (pss_one (ps_ret (pe_methTd (pv 0) T.cl_Store T.m_Store_put (ok_Store_put T) (hr.mono (by decide)) T.d_Store_put (.cons (show RelV (V.ref a.e_Store_put) (Value.ref a.e_Store_put) from rfl) .nil) (fun σ => passAt tk σ) (pa_cons (pe_lst (pa_cons pe_int (pa_cons pe_int (pa_cons pe_int pa_nil)))) pa_nil)))))
      (fun a oe cls d pn hz hf => (pss_one (ps_ret (pe_callB (call_isE' hz hf) (by rfl) T.n_isinstance (by decide +kernel) (pa_cons (pv 1) (pa_cons (pe_glob (v := .ref _) rfl T.g_NotEnoughDisks rfl) pa_nil)))))))), ?_⟩
    refine ⟨_, rfl, S, m.dx, _, rfl, h.hS, by kernel_rfl, by show 3 ≤ sizeLine; decide, fun W nW => ?_⟩
    have s1 := Same.new (o := .lst [V.int 1, V.int 2, V.int 3]) nW
    have dW : upd H W (.lst [V.int 1, V.int 2, V.int 3]) W = some (.lst (([1, 2, 3] : List Int).map V.int)) := upd_same
    have nW' := h.fresh nW
    generalize upd H W (.lst [V.int 1, V.int 2, V.int 3]) = H1 at s1 dW ⊢
    have ef : (m.ms.filter fun d => decide (d ∉ ([] : List Int))) = m.ms := List.filter_eq_self.mpr fun _ _ => by simp
    refine ⟨S, W, _, m, [1, 2, 3], [], ims, rfl, h.same s1, SqL.of dW, nW', .inr (.inr T.e_Store_put), SqL.of (s1 _ _ hI), i100, by decide, r100, l8, d1, w8, fun z => absurd z (by show ¬ 1000 * m.data < 3; omega), fun _ z H2 s2 => ?_, fun _ z => ?_⟩
    · rw [ef] at z
      refine ⟨true, T.u_NotEnoughDisks_PoolError, fun _ ad hb => ?_, fun z => Bool.noConfusion z⟩
      exact ⟨_, rfl, _, rfl, rfl, T.E_NotEnoughDisks, _, _, true, rfl, fun _ z => z, T.i_NotEnoughDisks_NotEnoughDisks, kE z _ (s1.trans s2)⟩
    rw [ef] at z
    obtain ⟨c1, c2, kQ⟩ := kQ z
    refine ⟨c1, c2, fun b H2 st mm es ew eL _ fr up => kQ b H2 st mm es (by rw [ew]; rfl) eL (fun x o e n => fr x o (s1 _ _ e) n) fun x r => (up x r).imp id fun n => same_none s1 n⟩
theorem sc_encode : FnScope ["pieces", "parity", "data", "places", "number"] ["pieces", "parity"] (defScope s_encode) := ⟨rfl, rfl, rfl, by decide +kernel, rfl, by decide +kernel, by decide +kernel⟩
theorem ok_encode (T : Txt w K mg a) : FnOk P w K mg base (L2.CX P w) 5 a.f_encode a.d_encode ["pieces", "parity"] (sp_encode K a) := by
  refine T.F_encode.okX sc_encode (fun vs H Q E h => ?len) (fun cdv A outer s H vs Q E hr h => ?body)
  case len =>
    exact sp_encode_len h
  case body =>
    obtain ⟨R, F, par, rfl, hR, h20, h500, p0, p5, kE, kQ⟩ := h
    refine ⟨_, (pss_cons (ps_set (i := 2) sc_encode.nd rfl (Or.inl rfl) (pe_callB call_len_seq (by rfl) T.n_len PySem.boot_len (pa_cons (pv 0) pa_nil)))
      (pss_cons (ps_if (pt_cmpR op_eq (pv 2) pe_int (nomark _))
      (pss_one (ps_raise rfl (takes_of rfl rfl rfl rfl) (pmk_own PySem.F.excBase_ValueError T.x_InvalidArgument T.g_InvalidArgument T.k_InvalidArgument (raises_own T.b_InvalidArgument T.t_InvalidArgument) (by exact rfl))))
      pss_nil)
      (pss_cons (ps_if (pt_cmpR op_lt (pv 1) pe_int (nomark _))
      (pss_one (ps_raise rfl (takes_of rfl rfl rfl rfl) (pmk_own PySem.F.excBase_ValueError T.x_InvalidArgument T.g_InvalidArgument T.k_InvalidArgument (raises_own T.b_InvalidArgument T.t_InvalidArgument) (by exact rfl))))
      pss_nil)
      (pss_cons (ps_if (pt_cmpR op_gt (pe_op op_add (pv 2) (pv 1)) (pe_const T.g_MAX_PIECES) (nomark _))
      (pss_one (ps_raise rfl (takes_of rfl rfl rfl rfl) (pmk_own PySem.F.excBase_ValueError T.x_InvalidArgument T.g_InvalidArgument T.k_InvalidArgument (raises_own T.b_InvalidArgument T.t_InvalidArgument) (by exact rfl))))
      pss_nil)
      (pss_cons (ps_expr (pe_call (ok_check_lengths T) (hr.mono (by decide)) rfl T.g_check_lengths T.F_check_lengths.kp T.d_check_lengths .nil (passes_call (takes_of rfl rfl rfl rfl) (fun _ _ _ _ z => z)) (pa_cons (pv 0) pa_nil)))
      (pss_cons (ps_set (i := 3) sc_encode.nd rfl (Or.inr rfl) (pe_listRg (by rfl) (by rfl) T.n_list (prg_1 (by rfl) T.n_range (pv 2))))
      (pss_one (ps_ret (pe_lc (own := [("number", 4)]) (g := (gName 4)) (by rfl) sc_encode.nd (pi_range2 (by rfl) T.n_range (pa_cons (pv 2) (pa_cons (pe_op op_add (pv 2) (pv 1)) pa_nil))) (blkOk_by (own := [("number", 4)]) (N := ["pieces", "parity", "data", "places", "number"]) (sc := defScope s_encode) (by decide +kernel))
      (fun _ _ _ _ _ => (pg_name (i := 4) sc_encode.nd rfl (Or.inl rfl))) (fun _ _ _ _ _ => pts_nil) (fun _ _ _ _ _ => (pe_call (ok_piece_at T) (hr.mono (by decide)) rfl T.g_piece_at T.F_piece_at.kp T.d_piece_at .nil pass0 (pa_cons (pv 0) (pa_cons (pv 3) (pa_cons (pv 4) pa_nil)))))))))))))), ?_⟩
    refine ⟨_, rfl, R, _, rfl, .inl hR.1, ?_⟩
    rw [refs_len]
    refine ⟨_, rfl, rfl, _, rfl, ?_⟩
    refine ite2 (fun q => kE (.inl (by have := V.int.inj (of_decide_eq_true q); exact List.length_eq_zero_iff.mp (by rw [snds_len]; omega))) _ (Same.refl _)) (fun q0 => ?_)
    have f0 : 0 < F.length := Nat.pos_of_ne_zero fun z => q0 (decide_eq_true (by rw [z]; rfl))
    refine ⟨_, rfl, _, _, rfl, rfl, _, rfl, ?_⟩
    refine ite2 (fun q => kE (.inr (.inl (of_decide_eq_true q))) _ (Same.refl _)) (fun q1 => ?_)
    have p1 : 0 ≤ par := Int.not_lt.mp fun z => q1 (decide_eq_true z)
    refine ⟨_, rfl, _, rfl, _, _, rfl, rfl, _, _, rfl, rfl, _, rfl, ?_⟩
    refine ite2 (fun q => kE (.inr (.inr (.inl (by rw [snds_len]; have := of_decide_eq_true q; omega)))) _ (Same.refl _)) (fun q2 => ?_)
    have p2 : (F.length : Int) + par ≤ 8 := Int.not_lt.mp fun z => q2 (decide_eq_true z)
    refine ⟨_, rfl, R, F, rfl, hR, fun b => kE (.inr (.inr (.inr b))), fun nb H1 s1 => ?_⟩
    have ne : F ≠ [] := fun z => by rw [z] at f0; exact absurd f0 (by decide)
    have nbad : ¬ BadEnc (snds F) par := fun b => by
      rcases b with b | b | b | b
      · exact ne (List.map_eq_nil_iff.mp b)
      · omega
      · rw [snds_len] at b; omega
      · exact nb b
    have rows : ∀ e ∈ F, e.2.length = ((snds F).getD 0 []).length := fun e m => Classical.byContradiction fun z => nb ⟨e.2, List.mem_map.mpr ⟨e, m, rfl⟩, z⟩
    obtain ⟨pn, rfl⟩ : ∃ n : Nat, par = (n : Int) := ⟨par.toNat, by omega⟩
    refine ⟨_, rfl, _, rfl, RgOk.of_le (by omega) (by omega) (by omega) (by omega), fun P nP => ?_⟩
    have eP : rgV 0 (F.length : Int) = (upto F.length).map V.int := by simp [rgV, upto]
    rw [eP]
    have sP := Same.new (o := .lst ((upto F.length).map V.int)) nP
    have s2 := s1.trans sP
    refine ⟨_, rfl, _, rfl, _, rfl, _, _, rfl, rfl, _, _, rfl, ⟨by omega, by omega, by omega, by omega⟩, fun D nD => ?_⟩
    have en : ((F.length : Int) + (pn : Int) - (F.length : Int)).toNat = pn := by omega
    rw [en]
    have RP := hR.same s2
    refine lc_it walk_range (fun i H' => ∃ G : List (Addr × List Int), Same (upd H1 P (.lst ((upto F.length).map V.int))) H' ∧ LA H' D G ∧ snds G = (List.range i).map (fun k => pieceM (upto F.length) (snds F) ((F.length + k : Nat) : Int) ((snds F).getD 0 []).length))
      ⟨[], Same.new nD, ⟨upd_same, fun _ m => nomatch m⟩, rfl⟩ (fun _ _ _ _ => True.intro) ?_ ?_
    · rintro i y H3 H4 hi ⟨G, s3, LG, eG⟩ ⟨rfl, rfl⟩
      refine ⟨rfl, _, rfl, _, rfl, _, rfl, R, P, F, upto F.length, ((F.length + i : Nat) : Int), ((snds F).getD 0 []).length, rfl, RP.same s3, s3 _ _ upd_same, upto_apart (by omega), upto_len _, ne, by omega, h500, rows, fun D2 H5 s4 n2 h2 => ?_⟩
      have L5 := LG.same s4
      have nD2 : D2 ≠ D := (ne_of_none LG.1 n2).symm
      have gl : G.length = i := by rw [← snds_len, eG]; simp
      refine ⟨_, L5.1, small _ (by rw [refs_len]; omega), ?_⟩
      have e : refs G ++ [V.ref D2] = refs (G ++ [(D2, pieceM (upto F.length) (snds F) ((F.length + i : Nat) : Int) ((snds F).getD 0 []).length)]) := by unfold refs; rw [List.map_append]; rfl
      rw [e]
      refine ⟨_, fun b o e' => ?_, LA.put fun e' me => ?_, ?_⟩
      · rw [upd_ne (ne_of_none e' nD)]
        exact s4 _ _ (s3 b o e')
      · rcases List.mem_append.mp me with me | me
        · exact L5.2 e' me
        · have : e' = (D2, pieceM (upto F.length) (snds F) ((F.length + i : Nat) : Int) ((snds F).getD 0 []).length) := by simpa using me
          subst this
          exact ⟨h2, nD2⟩
      · rw [snds, List.map_append, List.range_succ, List.map_append]
        show snds G ++ _ = _
        rw [eG]
        rfl
    · rintro H3 ⟨G, s3, LG, eG⟩
      refine kQ nbad D G H3 (s2.trans s3) ?_ LG (by rw [Int.toNat_natCast]; exact eG)
      exact Classical.byContradiction fun q => by
        cases q' : H D with
        | none => exact q q'
        | some o => exact absurd (s2 _ _ q') (by rw [nD]; exact fun z => nomatch z)
theorem sc_recover : FnScope ["pieces", "data", "places", "known", "whole", "number", "piece", "place"] ["pieces", "data"] (defScope s_recover) := ⟨rfl, rfl, rfl, by decide +kernel, rfl, by decide +kernel, by decide +kernel⟩
theorem ok_recover (T : Txt w K mg a) : FnOk P w K mg base CX0 5 a.f_recover a.d_recover ["pieces", "data"] (sp_recover K a) := by
  refine T.F_recover.ok sc_recover (fun vs H Q E h => ?len) (fun cdv A outer s H vs Q E hr h => ?body)
  case len =>
    exact sp_recover_len h
  case body =>
    exact h.2.elim
theorem sc_write_stripe : FnScope ["images", "places", "stamp", "words", "data", "pieces"] ["images", "places", "stamp", "words", "data"] (defScope s_write_stripe) := ⟨rfl, rfl, rfl, by decide +kernel, rfl, by decide +kernel, by decide +kernel⟩
theorem ok_write_stripe (T : Txt w K mg a) : FnOk P w K mg base (L2.CX P w) 6 a.f_write_stripe a.d_write_stripe ["images", "places", "stamp", "words", "data"] (sp_write_stripe K a) := by
  refine T.F_write_stripe.okX sc_write_stripe (fun vs H Q E h => ?len) (fun cdv A outer s H vs Q E hr h => ?body)
  case len =>
    exact sp_write_stripe_len h
  case body =>
    obtain ⟨I, P, st, W, ims, pls, e, s', ws, d, rfl, hI, hl, hP, hpl, hT, hs, hW, d1, dc, c8, hlen, kE, kQ⟩ := h
    refine ⟨_, (pss_cons (ps_if (pt_cmpR op_gt (pe_callB call_len_seq (by rfl) T.n_len PySem.boot_len (pa_cons (pv 3) pa_nil)) (pe_op op_mul (pe_const T.g_MAX_PAYLOAD) (pv 4)) (nomark _))
      (pss_one (ps_raise rfl (takes_of rfl rfl rfl rfl) (pmk_own PySem.F.excBase_ValueError T.x_InvalidArgument T.g_InvalidArgument T.k_InvalidArgument (raises_own T.b_InvalidArgument T.t_InvalidArgument) (by exact rfl))))
      pss_nil)
      (pss_cons (ps_set (i := 5) sc_write_stripe.nd rfl (Or.inl rfl) (pe_call (ok_data_pieces T) (hr.mono (by decide)) rfl T.g_data_pieces T.F_data_pieces.kp T.d_data_pieces .nil pass0 (pa_cons (pv 3) (pa_cons (pv 4) pa_nil))))
      (pss_cons (ps_expr (pe_bm PySem.F.plainAttrs_list PySem.F.slot_list_extend PySem.F.type_list_extend mt_extend (pv 5) (pa_cons (pe_call (ok_encode T) (hr.mono (by decide)) rfl T.g_encode T.F_encode.kp T.d_encode .nil (passes_call (takes_of rfl rfl rfl rfl) (fun _ _ _ _ z => z)) (pa_cons (pv 5) (pa_cons (pe_op op_sub (pe_callB call_len_seq (by rfl) T.n_len PySem.boot_len (pa_cons (pv 1) pa_nil)) (pv 4)) pa_nil))) pa_nil)))
      (pss_one (ps_ret (pe_call (ok_piece_requests T) (hr.mono (by decide)) rfl T.g_piece_requests T.F_piece_requests.kp T.d_piece_requests .nil pass0 (pa_cons (pv 0) (pa_cons (pv 1) (pa_cons (pv 2) (pa_cons (pv 5) (pa_cons (pe_listRg (by rfl) (by rfl) T.n_list (prg_1 (by rfl) T.n_range (pe_callB call_len_seq (by rfl) T.n_len PySem.boot_len (pa_cons (pv 1) pa_nil)))) pa_nil))))))))))), ?_⟩
    refine ⟨_, rfl, W, _, rfl, .inl hW, _, rfl, _, _, rfl, rfl, .inl ⟨by decide, by decide⟩, _, _, rfl, rfl, _, rfl, ite2 (fun b => kE (by have := of_decide_eq_true b; rw [List.length_map] at this; omega) _ (Same.refl _)) (fun b => ?_)⟩
    have h4 : ws.length ≤ 400 := by
      rcases hlen with h | ⟨h, _⟩
      · exact h
      · exact absurd (decide_eq_true (by rw [List.length_map]; omega)) b
    refine ⟨_, rfl, _, rfl, W, ws, d, rfl, hW, h4, d1, by omega, fun R F H1 s1 nR LF eF => ?_⟩
    have lF : F.length = d := by rw [← snds_len, eF, cuts_len]
    have f0 : ((snds F).getD 0 []).length = sizeM ws.length d := cuts_row d1 _ (by
      rw [eF, List.getD_eq_getElem?_getD, List.getElem?_eq_getElem (by rw [cuts_len]; omega)]
      exact List.getElem_mem _)
    have rF : ∀ e ∈ F, e.2.length = sizeM ws.length d := fun e m => cuts_row d1 _ (by rw [← eF]; exact List.mem_map.mpr ⟨e, m, rfl⟩)
    have szl := size_lt ws.length d d1
    have nbad : ¬ BadEnc (snds F) ((pls.length : Int) - (d : Int)) := by
      rintro (q | q | q | ⟨r, m, q⟩)
      · have := congrArg List.length q
        rw [snds_len, lF] at this
        simp at this
        omega
      · omega
      · rw [snds_len, lF] at q; omega
      · obtain ⟨e, me, rfl⟩ := List.mem_map.mp m
        exact q (by rw [f0]; exact rF e me)
    have hI1 := s1.seq hI
    have hP1 := hP.same s1
    have hT1 := s1.tup hT
    obtain ⟨as, hA, lA, _⟩ := hP1.old
    refine ⟨_, rfl, .inl ⟨rfl, _, SqL.of LF.1⟩, _, rfl, _, rfl, P, _, rfl, .inr hA, _, rfl, _, _, rfl, rfl, R, F, (pls.length : Int) - (d : Int), by rw [List.length_map, lA]; rfl, LF.rl, by omega, by omega, by omega, by omega, fun b => absurd b nbad, fun _ D G H2 s2 nD LG eG => ?_⟩
    rw [f0, lF, show ((pls.length : Int) - (d : Int)).toNat = pls.length - d by omega] at eG
    have LF2 := LF.same s2
    have lG : G.length = pls.length - d := by rw [← snds_len, eG]; simp
    refine ⟨R, D, _, _, rfl, rfl, LF2.1, LG.1, Nat.le_of_lt (small _ (by rw [refs_len, refs_len]; omega)), ?_⟩
    have er : refs F ++ refs G = refs (F ++ G) := by unfold refs; rw [List.map_append]
    rw [er]
    have LX : LA (upd H2 R (.lst (refs (F ++ G)))) R (F ++ G) := LA.put fun e' me => by
      rcases List.mem_append.mp me with me | me
      · exact LF2.2 e' me
      · refine ⟨(LG.2 e' me).1, fun z => ?_⟩
        have h1 := (LG.2 e' me).1
        rw [z, LF2.1] at h1
        cases F with
        | nil => simp at lF; omega
        | cons f F =>
          have h2 := HO.lst.inj (Option.some.inj h1)
          cases hw : e'.2 with
          | nil => rw [hw] at h2; cases h2
          | cons c r => rw [hw] at h2; simp only [refs, List.map_cons] at h2; injection h2 with h3 _; cases h3
    have sX : Same H (upd H2 R (.lst (refs (F ++ G)))) := same_put (s1.trans s2) nR
    generalize upd H2 R (.lst (refs (F ++ G))) = H3 at LX sX ⊢
    have eX : snds (F ++ G) = stripeM ws d pls.length := by
      unfold stripeM
      rw [snds, List.map_append]
      show snds F ++ snds G = _
      rw [eG, eF]
    have lX : (F ++ G).length = pls.length := by rw [List.length_append, lF, lG]; omega
    obtain ⟨bs, hB, lB, _⟩ := (hP.same sX).old
    refine ⟨_, rfl, _, rfl, _, rfl, _, rfl, _, rfl, P, _, rfl, .inr hB, ?_⟩
    rw [List.length_map, lB]
    refine ⟨_, rfl, RgOk.of_le (by omega) (by omega) (by omega) (by omega), fun N nN => ?_⟩
    have eP : rgV 0 (pls.length : Int) = ((List.range pls.length).map fun (i : Nat) => (i : Int)).map V.int := by simp [rgV]
    rw [eP]
    have sN := Same.new (o := .lst (((List.range pls.length).map fun (i : Nat) => (i : Int)).map V.int)) nN
    have sY := sX.trans sN
    refine ⟨I, P, st, R, N, ims, pls, e, s', F ++ G, List.range pls.length, rfl, sY.seq hI, hl, hP.same sY, hpl, sY.tup hT, hs, (LX.same sN).rl, fun r m => ?_, lX, SqL.of upd_same, fun n m => List.mem_range.mp m, by rw [List.length_range]; omega, fun D2 L H4 s4 n4 W4 e4 => ?_⟩
    · have := stripe_row (c := pls.length) d1 r.2 (by rw [← eX]; exact List.mem_map.mpr ⟨r, m, rfl⟩)
      omega
    rw [eX] at e4
    exact kQ h4 D2 L H4 (sY.trans s4) (same_none sY n4) W4 e4
theorem sc_read_stripe : FnScope ["images", "places", "stamp", "length", "data", "size", "pieces", "good", "place", "piece", "word"] ["images", "places", "stamp", "length", "data"] (defScope s_read_stripe) := ⟨rfl, rfl, rfl, by decide +kernel, rfl, by decide +kernel, by decide +kernel⟩
theorem ok_read_stripe (T : Txt w K mg a) : FnOk P w K mg base CX0 6 a.f_read_stripe a.d_read_stripe ["images", "places", "stamp", "length", "data"] (sp_read_stripe K a) := by
  refine T.F_read_stripe.ok sc_read_stripe (fun vs H Q E h => ?len) (fun cdv A outer s H vs Q E hr h => ?body)
  case len =>
    exact sp_read_stripe_len h
  case body =>
    exact h.2.elim
theorem sc_Store_get : FnScope ["self", "pointer", "epoch", "serial", "length", "places"] ["self", "pointer"] (defScope s_Store_get) := ⟨rfl, rfl, rfl, by decide +kernel, rfl, by decide +kernel, by decide +kernel⟩
theorem ok_Store_get (T : Txt w K mg a) : FnOk P w K mg base CX0 7 a.f_Store_get a.d_Store_get ["self", "pointer"] (sp_Store_get K a) := by
  refine T.F_Store_get.ok sc_Store_get (fun vs H Q E h => ?len) (fun cdv A outer s H vs Q E hr h => ?body)
  case len =>
    exact sp_Store_get_len h
  case body =>
    exact h.2.elim
theorem sc_Space_give : FnScope ["self", "row", "state"] ["self", "row"] (defScope s_Space_give) := ⟨rfl, rfl, rfl, by decide +kernel, rfl, by decide +kernel, by decide +kernel⟩
theorem ok_Space_give (T : Txt w K mg a) : FnOk P w K mg base (L2.CX P w) 8 a.f_Space_give a.d_Space_give ["self", "row"] (sp_Space_give K a) := by
  refine T.F_Space_give.okX sc_Space_give (fun vs H Q E h => ?len) (fun cdv A outer s H vs Q E hr h => ?body)
  case len =>
    exact sp_Space_give_len h
  case body =>
    obtain ⟨p, d, first, rows, φ, r, rfl, hs, hr1, kE, kQ⟩ := h
    obtain ⟨dx, low, M, h1, h2, ok, l1, l2, l3⟩ := id hs
    have npd : p ≠ d := ne_of h1 h2 (by intro z; cases z)
    refine ⟨_, (pss_cons (ps_set (i := 2) sc_Space_give.nd rfl (Or.inl rfl) (pe_dget1 (hu_of hr) (pe_fld (pv 0) rfl) (pv 1) ⟨rfl, rfl, rfl, rfl⟩))
      (pss_cons (ps_if (PW.pt (pw_or (pt_cmpR op_isN (pv 2) pe_non (nomark _)) (pw_or1 (pt_cmpR op_eq (pv 2) (pe_const T.g_WAITING) (nomark _)))))
      (pss_one (ps_raise rfl (takes_of rfl rfl rfl rfl) (pmk_own PySem.F.excBase_ValueError T.x_InvalidArgument T.g_InvalidArgument T.k_InvalidArgument (raises_own T.b_InvalidArgument T.t_InvalidArgument) (by exact rfl))))
      pss_nil)
      (pss_one (ps_if (pt_cmpR op_eq (pv 2) (pe_const T.g_OLD) (nomark _))
      (pss_one (ps_dput (hu_of hr) (pe_fld (pv 0) rfl) (pv 1) (pe_const T.g_WAITING) rfl))
      (pss_cons (ps_ddel (pe_fld (pv 0) rfl) (pv 1))
      (pss_one (ps_fld (pv 0) (pe_callB (call_min2 rfl) (by rfl) T.n_min (by decide +kernel) (pa_cons (pe_fld (pv 0) rfl) (pa_cons (pv 1) pa_nil))) rfl))))))), ?_⟩
    refine ⟨_, rfl, p, _, dx, _, _, rfl, h1, T.cl_Space, T.na_Space_states, flds_states _ _ _ _, d, rfl, .inl ⟨_, .inl h2⟩, _, rfl, _, DGet.k (k := Sum.inl r) h2, ?_⟩
    rw [ok.val]
    by_cases e0 : φ r = 0
    · rw [if_pos e0]
      refine ⟨_, rfl, rfl, _, rfl, iteT (kE (.inl e0) _ (Same.refl _))⟩
    rw [if_neg e0]
    refine ⟨_, rfl, rfl, _, rfl, iteF ?_⟩
    refine ⟨_, rfl, rfl, _, rfl, ite2 (fun b => kE (.inr (V.int.inj (show V.int (φ r) = V.int 3 from of_decide_eq_true b))) _ (Same.refl _)) (fun b => ?_)⟩
    have e3 : φ r ≠ 3 := fun z => b (decide_eq_true (show V.int (φ r) = V.int 3 by rw [z]))
    have nz : ¬ (φ r = 0 ∨ φ r = 3) := fun z => z.elim e0 e3
    have rg := ok.range e0
    have vs : (valV (kvM M) (Sum.inl r)).isSome = true := by rw [ok.val, if_neg e0]; rfl
    have lM : M.length ≤ rows := by rw [ok.len]; exact Nat.le_trans (pick_le _ _ _ _) (Nat.sub_le _ _)
    refine ⟨_, rfl, rfl, _, rfl, ite2 (fun b2 => ?_) (fun b2 => ?_)⟩
    · have e2 : φ r = 2 := V.int.inj (show V.int (φ r) = V.int 2 from of_decide_eq_true b2)
      refine ⟨_, rfl, p, _, dx, _, _, rfl, h1, T.cl_Space, T.na_Space_states, flds_states _ _ _ _, _, rfl, d, _, rfl, DPut.k (k := Sum.inl r) h2 (small _ (by simp [kvM]; omega)), ?_⟩
      rw [kv_set vs]
      refine kQ nz _ ⟨dx, low, setM M r 3, by rw [upd_ne npd]; exact h1, upd_same, ?_, l1, fun q q1 q2 => ?_, l3⟩ fun b o eb n1 n2 => by rw [upd_ne n2]; exact eb
      · rw [if_pos e2]
        exact ok.set e0 ⟨by decide, by decide⟩
      · rw [if_pos e2]
        unfold upF
        split
        · decide
        · exact l2 q q1 q2
    · have e2 : φ r ≠ 2 := fun z => b2 (decide_eq_true (show V.int (φ r) = V.int 2 by rw [z]))
      rw [if_neg e2] at kQ
      refine ⟨_, rfl, p, _, dx, _, _, rfl, h1, T.cl_Space, T.na_Space_states, flds_states _ _ _ _, _, rfl, d, _, Sum.inl r, rfl, h2, rfl, vs, ?_⟩
      rw [kv_del]
      have h1' : upd H d (.dK (kvM (delM M r))) p = some (.ins a.c_Space dx (flds rows first d low)) := by rw [upd_ne npd]; exact h1
      refine ⟨_, rfl, p, _, dx, _, _, rfl, h1', T.cl_Space, T.na_Space_lowest, flds_lowest _ _ _ _, _, rfl, low, r, rfl, ?_⟩
      refine ⟨_, rfl, p, _, dx, _, rfl, h1', T.cl_Space, T.na_Space_lowest, (by show 4 < 1000; decide), ?_⟩
      have lw : (if r < low then r else low) ≤ r ∧ (if r < low then r else low) ≤ low ∧ (first : Int) ≤ (if r < low then r else low) := by
        have := rg.1
        split <;> omega
      generalize (if r < low then r else low) = low' at lw ⊢
      refine kQ nz _ ⟨dx, low', delM M r, ?_, ?_, ok.del r, lw.2.2, fun q q1 q2 => ?_, by omega⟩ fun b o eb n1 n2 => ?_
      · rw [upd_same]
        exact congrArg (fun l => some (HO.ins a.c_Space dx l)) (flds_low (rows : Int) (first : Int) d low low')
      · rw [upd_ne npd.symm, upd_same]
      · unfold upF
        rw [if_neg (by omega)]
        exact l2 q q1 (by omega)
      · rw [upd_ne n1, upd_ne n2]
        exact eb
theorem sc_Store_forget : FnScope ["self", "pointers", "pointer", "disk", "row"] ["self", "pointers"] (defScope s_Store_forget) := ⟨rfl, rfl, rfl, by decide +kernel, rfl, by decide +kernel, by decide +kernel⟩
theorem ok_Store_forget (T : Txt w K mg a) : FnOk P w K mg base CX0 9 a.f_Store_forget a.d_Store_forget ["self", "pointers"] (sp_Store_forget K a) := by
  refine T.F_Store_forget.ok sc_Store_forget (fun vs H Q E h => ?len) (fun cdv A outer s H vs Q E hr h => ?body)
  case len =>
    exact sp_Store_forget_len h
  case body =>
    obtain ⟨S, P, m, gs, ψ, rfl, h, hP, nP, sub, l50, r1000, h12, k⟩ := h
    have hw := T.hw
    subst hw
    refine ⟨_, (pss_one (ps_for PassesOwn.never rfl (pi_list (pv 1)) (pg_name (i := 2) sc_Store_forget.nd rfl (Or.inl rfl))
      (pss_cons (ps_for PassesOwn.never rfl (pi_tup (pe_ix ix_tup (pv 2) pe_int (fun _ _ => rfl))) (pg_tup rfl (pgs_cons (pg_name (i := 3) sc_Store_forget.nd rfl (Or.inl rfl)) (pgs_cons (pg_name (i := 4) sc_Store_forget.nd rfl (Or.inl rfl)) pgs_nil)))
      (pss_one (ps_expr (pe_meth (pe_dget (hu_of hr) (pe_fld (pv 0) rfl) (pv 3) (fun _ _ => rfl)) T.cl_Space T.m_Space_give (ok_Space_give T) (hr.mono (by decide)) T.d_Space_give .nil passL (pa_cons (pv 4) pa_nil)))))
      (pss_cons (ps_ndel hr.units (pe_fld (pv 0) rfl) (pv 2))
      (pss_one (ps_if (pt_cmp (pc_nin hr.units (pv 2) (pe_fld (pv 0) rfl)))
      (pss_one (ps_ndel hr.units (pe_fld (pv 0) rfl) (pv 2)))
      pss_nil)))))), ?_⟩
    have mg : ∀ b ∈ gs, b ∈ m.bl := fun b mb => sub.subset mb
    refine ⟨_, rfl, P, rfl, ⟨_, hP⟩, for_list (K := K) (a := P) (xs := gs.map fun b => V.ref b.T) (fun i σ H' => ∃ (v2 v3 v4 : Option V), σ = [some (.ref S), some (.ref P), v2, v3, v4] ∧ StorP a H' S (m.with (m.bl.filter fun b => decide (b.s ∉ (gs.take i).map (·.s)))) (giveF ψ (plcs (gs.take i))) ∧ ∀ x o, H x = some o → ¬ StR S m x → H' x = some o) ⟨none, none, none, rfl, ?_, fun _ _ e _ => e⟩ ?_ ?_ ?_⟩
    · have e : (m.bl.filter fun b => decide (b.s ∉ (gs.take 0).map (·.s))) = m.bl := List.filter_eq_self.mpr fun b _ => by simp
      rw [e]
      exact h.psi fun d _ => by rw [List.take_zero]; exact (give_nil ψ d).symm
    · rintro i σ H' _ ⟨_, _, _, _, _, fr⟩
      exact seq_keep hP fun o e => fr _ _ e nP
    · rintro i y σ H1 hy ⟨v2, v3, v4, rfl, h1, fr⟩
      obtain ⟨b, hb, rfl⟩ : ∃ b, gs[i]? = some b ∧ y = V.ref b.T := by
        rw [List.getElem?_map] at hy
        cases z : gs[i]? with
        | none => rw [z] at hy; cases hy
        | some b => rw [z] at hy; exact ⟨b, rfl, (Option.some.inj hy).symm⟩
      have mb := mg b (List.mem_of_getElem? hb)
      have ung : (gs.map (·.s)).Nodup := h.un.sublist (List.Sublist.map _ sub)
      have nb : b.s ∉ (gs.take i).map (·.s) := fun z => by
        obtain ⟨c, mc, e⟩ := List.mem_map.mp z
        obtain ⟨j, hj⟩ := List.mem_iff_getElem?.mp mc
        rw [List.getElem?_take] at hj
        split at hj
        · next lt =>
          unfold List.Nodup at ung
          rw [List.pairwise_iff_getElem] at ung
          have li := item_lt hb
          have lj := item_lt hj
          refine ung j i (by rw [List.length_map]; exact lj) (by rw [List.length_map]; exact li) lt ?_
          rw [List.getElem_map, List.getElem_map, show gs[j] = c from Option.some.inj ((List.getElem?_eq_getElem lj).symm.trans hj), show gs[i] = b from Option.some.inj ((List.getElem?_eq_getElem li).symm.trans hb)]
          exact e
        · cases hj
      obtain ⟨m1, hm1⟩ : ∃ m1, m1 = m.with (m.bl.filter fun b => decide (b.s ∉ (gs.take i).map (·.s))) := ⟨_, rfl⟩
      rw [← hm1] at h1
      have mb1 : b ∈ m1.bl := by rw [hm1]; exact List.mem_filter.mpr ⟨mb, decide_eq_true nb⟩
      have q1 : m1.dx = m.dx ∧ m1.ms = m.ms ∧ m1.sp = m.sp ∧ m1.bD = m.bD ∧ m1.mD = m.mD ∧ m1.rows = m.rows := by rw [hm1]; exact ⟨rfl, rfl, rfl, rfl, rfl, rfl⟩
      have nst : ∀ {x}, ¬ StR S m x → (∀ d ∈ m1.ms, x ≠ (m1.sp d).1 ∧ x ≠ (m1.sp d).2) ∧ x ≠ m1.bD ∧ x ≠ m1.mD := fun {x} n => by
        obtain ⟨_, e2, e3, e4, e5, _⟩ := q1
        rw [e2, e3, e4, e5]
        exact ⟨fun d md => ⟨fun z => n (by rw [z]; exact .s1 d md), fun z => n (by rw [z]; exact .s2 d md)⟩, fun z => n (by rw [z]; exact .bd), fun z => n (by rw [z]; exact .md)⟩
      have hb1 := h1.blk b mb1
      have mgb := List.mem_of_getElem? hb
      have epl : plcs (gs.take (i + 1)) = plcs (gs.take i) ++ b.L.map (·.2) := by rw [take_snoc hb, plcs_snoc]
      have nd1 : (plcs (gs.take i) ++ b.L.map (·.2)).Nodup := by
        rw [← epl]
        exact ((h.dis : (plcs m.bl).Nodup).sublist (plcs_sub sub)).sublist (plcs_sub (List.take_sublist _ _))
      refine ⟨_, rfl, b.T, _, _, _, rfl, rfl, SqT.of hb1.t, at_of (j := 3) rfl rfl, b.PT, rfl, ⟨_, SqT.of hb1.pt⟩, for_tup (K := K) (a := b.PT) (xs := b.L.map fun q => V.ref q.1) (fun j σ H' => ∃ (v3 v4 : Option V), σ = [some (.ref S), some (.ref P), some (.ref b.T), v3, v4] ∧ StorP a H' S m1 (giveF ψ (plcs (gs.take i) ++ (b.L.map (·.2)).take j)) ∧ ∀ x o, H x = some o → ¬ StR S m x → H' x = some o) ⟨v3, v4, rfl, by rw [List.take_zero, List.append_nil]; exact h1, fr⟩ (fun j σ H' _ ⟨_, _, _, st, _⟩ => SqT.of (st.blk b mb1).pt) ?_ ?_⟩
      · rintro j y σ H2 hy ⟨v3, v4, rfl, st, fr2⟩
        obtain ⟨e, he, rfl⟩ : ∃ e, b.L[j]? = some e ∧ y = V.ref e.1 := by
          rw [List.getElem?_map] at hy
          cases z : b.L[j]? with
          | none => rw [z] at hy; cases hy
          | some e => rw [z] at hy; exact ⟨e, rfl, (Option.some.inj hy).symm⟩
        have me := List.mem_of_getElem? he
        have he' : (b.L.map (·.2))[j]? = some e.2 := by rw [List.getElem?_map, he]; rfl
        have new := new_place nd1 he'
        obtain ⟨md, r18, rr⟩ := st.row b mb1 e me
        obtain ⟨dx', low, M, e1, _⟩ := id (st.sp _ md)
        have v1 : giveF ψ (plcs (gs.take i) ++ (b.L.map (·.2)).take j) e.2.1 e.2.2 = ψ e.2.1 e.2.2 := by
          unfold giveF
          rw [if_neg new]
        have h12' := h12 b mgb e me
        refine ⟨e.1, _, rfl, SqT.of ((st.blk b mb1).q e me), rfl, _, _, rfl, _, _, rfl, rfl, ?_⟩
        refine ⟨_, rfl, S, _, m1.dx, _, _, rfl, st.hS, T.cl_Store, T.na_Store_spaces, sf_spaces m1, _, rfl, m1.spd, _, rfl, st.spget md, (m1.sp e.2.1).1, dx', _, rfl, e1, rfl, _, rfl, (m1.sp e.2.1).1, (m1.sp e.2.1).2, 18, m1.rows, _, e.2.2, rfl, st.sp _ md, by rw [q1.2.2.2.2.2]; exact r1000, fun z => by rw [v1] at z; omega, fun _ H3 sp3 fr3 => ?_⟩
        have st3 := st.space md sp3 fr3
        refine ⟨_, _, rfl, st3.psi fun x mx => ?_, fun x o ex n => fr3 _ _ (fr2 x o ex n) ((nst n).1 _ md).1 ((nst n).1 _ md).2⟩
        rw [take_snoc he', ← List.append_assoc]
        exact give_snoc new x
      rintro σ H2 ⟨v3, v4, rfl, st, fr2⟩
      rw [List.length_map, List.take_of_length_le (l := b.L.map (·.2)) (by rw [List.length_map]; exact Nat.le_refl _), ← epl] at st
      have there : (L2.atN (bxs m1.ep m1.bl) (keyB m1.ep b)).isSome = true := atN_iff.mpr ⟨_, List.mem_map.mpr ⟨b, mb1, rfl⟩, rfl⟩
      have nk2 := (st.blk b mb1).nk
      have one : ∀ c ∈ m1.bl, c.s = b.s → c = b := fun c mc e => st.ser_one mc mb1 e
      refine ⟨_, rfl, S, _, m1.dx, _, _, rfl, st.hS, T.cl_Store, T.na_Store_blocks, sf_blocks m1, _, rfl, m1.bD, b.T, _, keyB m1.ep b, rfl, st.hb, st.bkeys, rfl, nk2, keyB_depth _ _, there, ?_⟩
      have ob : L2.outN (bxs m1.ep m1.bl) (keyB m1.ep b) = bxs m1.ep (m1.bl.filter fun c => decide (c.s ≠ b.s)) := out_bxs one
      obtain ⟨H3, hH3⟩ : ∃ H3, H3 = upd H2 m1.bD (L2.NO a.wd m1.bD (L2.outN (bxs m1.ep m1.bl) (keyB m1.ep b))) := ⟨_, rfl⟩
      have k3 : ∀ c o, H2 c = some o → c ≠ m1.bD → H3 c = some o := fun c o e n => by rw [hH3, upd_ne n]; exact e
      have b3 : H3 m1.bD = some (L2.NO a.wd m1.bD (bxs m1.ep (m1.bl.filter fun c => decide (c.s ≠ b.s)))) := by rw [hH3, upd_same, ob]
      have tup3 : ∀ c ys, H2 c = some (.tup ys) → H3 c = some (.tup ys) := fun c ys e => k3 _ _ e (ne_of e st.hb (by intro z; cases z))
      have hS3 : H3 S = some (.ins a.c_Store m1.dx (sflds m1)) := k3 _ _ st.hS (ne_of st.hS st.hb (by intro z; cases z))
      have hM3 : H3 m1.mD = some (L2.NO a.wd m1.mD (mxs m1.ep m1.bl)) := k3 _ _ st.hM st.bm.symm
      have mk3 := st.mkeys.at tup3
      have nk3 := NK.at tup3 _ _ nk2
      have ebl : m1.with (m1.bl.filter fun c => decide (c.s ≠ b.s)) = m.with (m.bl.filter fun c => decide (c.s ∉ (gs.take (i + 1)).map (·.s))) := by
        rw [hm1]
        show m.with (List.filter _ (List.filter _ m.bl)) = _
        rw [List.filter_filter]
        congr 1
        refine List.filter_congr fun c _ => ?_
        rw [take_snoc hb, List.map_append]
        by_cases c1 : c.s = b.s
        · simp [c1]
        · simp [c1]
      subst hH3
      refine ⟨_, rfl, _, rfl, S, _, m1.dx, _, _, rfl, hS3, T.cl_Store, T.na_Store_memory, sf_memory m1, m1.mD, b.T, _, keyB m1.ep b, rfl, .inl hM3, mk3, rfl, nk3, keyB_depth _ _, _, rfl, ?_⟩
      by_cases zm : b.mem = true
      · rw [st.mem mb1 zm]
        refine iteT ⟨_, rfl, S, _, m1.dx, _, _, rfl, hS3, T.cl_Store, T.na_Store_memory, sf_memory m1, _, rfl, m1.mD, b.T, _, keyB m1.ep b, rfl, hM3, mk3, rfl, nk3, keyB_depth _ _, by rw [st.mem mb1 zm]; rfl, ?_⟩
        have om : L2.outN (mxs m1.ep m1.bl) (keyB m1.ep b) = mxs m1.ep (m1.bl.filter fun c => decide (c.s ≠ b.s)) := out_mxs one
        refine ⟨_, _, _, rfl, ?_, fun x o ex n => ?_⟩
        · rw [← ebl]
          refine st.drop (b := b) ?_ ?_ fun x o e n1 n2 => ?_
          · exact (upd_ne st.bm).trans b3
          · refine upd_same.trans ?_
            rw [om]
            rfl
          · exact (upd_ne n2).trans (k3 _ _ e n1)
        · exact (upd_ne (nst n).2.2).trans (k3 _ _ (fr2 x o ex n) (nst n).2.1)
      · have zm : b.mem = false := by simpa using zm
        rw [st.nomem mb1 zm]
        refine iteF ⟨_, _, _, rfl, ?_, fun x o ex n => k3 _ _ (fr2 x o ex n) (nst n).2.1⟩
        rw [← ebl]
        exact st.drop (b := b) b3 (by rw [mxs_less one zm]; exact hM3) fun x o e n1 _ => k3 _ _ e n1
    rintro σ H1 ⟨v2, v3, v4, rfl, h1, fr⟩
    rw [List.length_map, List.take_length] at h1
    exact k H1 h1 fr
theorem sc_Store_commit : FnScope ["self", "live", "kept", "requests", "pointer", "words", "epoch", "serial", "_", "places", "disk"] ["self", "live"] (defScope s_Store_commit) := ⟨rfl, rfl, rfl, by decide +kernel, rfl, by decide +kernel, by decide +kernel⟩
theorem ok_Store_commit (T : Txt w K mg a) : FnOk P w K mg base CX0 10 a.f_Store_commit a.d_Store_commit ["self", "live"] (sp_Store_commit K a) := by
  refine T.F_Store_commit.ok sc_Store_commit (fun vs H Q E h => ?len) (fun cdv A outer s H vs Q E hr h => ?body)
  case len =>
    exact sp_Store_commit_len h
  case body =>
    obtain ⟨S, LV, m, ls, ims, rfl, h, hL, hls, l100, l50, r1000, hI, i100, d1, ep, mk, l8, hw8, k⟩ := h
    have hw := T.hw
    subst hw
    refine ⟨_, (pss_cons (ps_set (i := 2) sc_Store_commit.nd rfl (Or.inr rfl) (pe_nc (mine := [("pointer", 4)]) (g := (gName 4)) hr.units (by rfl) sc_Store_commit.nd (pi_list (pv 1)) (blkOk_by (own := [("pointer", 4)]) (N := ["self", "live", "kept", "requests", "pointer", "words", "epoch", "serial", "_", "places", "disk"]) (sc := defScope s_Store_commit) (by decide +kernel))
      (fun _ _ _ _ _ => (pg_name (i := 4) sc_Store_commit.nd rfl (Or.inl rfl))) (fun _ _ _ _ _ => pts_nil) (fun _ _ _ _ _ => (pv 4)) (fun _ _ _ _ _ => pe_bl)))
      (pss_cons (ps_set (i := 3) sc_Store_commit.nd rfl (Or.inl rfl) (pe_lst pa_nil))
      (pss_cons (ps_lock (ps_for PassesOwn.never rfl (by exact pi_nitems (pe_fld (pv 0) rfl) : PI _ _ _ (iNItems _ _)) (pg_tup rfl (pgs_cons (pg_name (i := 4) sc_Store_commit.nd rfl (Or.inl rfl)) (pgs_cons (pg_name (i := 5) sc_Store_commit.nd rfl (Or.inl rfl)) pgs_nil)))
      (pss_one (ps_if (pt_cmp (pc_nin hr.units (pv 4) (pv 2)))
      (pss_cons (ps_asg (pv 4) (pg_tup rfl (pgs_cons (pg_name (i := 6) sc_Store_commit.nd rfl (Or.inl rfl)) (pgs_cons (pg_name (i := 7) sc_Store_commit.nd rfl (Or.inl rfl)) (pgs_cons (pg_name (i := 8) sc_Store_commit.nd rfl (Or.inl rfl)) (pgs_cons (pg_name (i := 9) sc_Store_commit.nd rfl (Or.inl rfl)) pgs_nil))))))
      (pss_one (ps_expr (pe_bm PySem.F.plainAttrs_list PySem.F.slot_list_extend PySem.F.type_list_extend mt_extend (pv 3) (pa_cons (pe_call (ok_write_stripe T) (hr.mono (by decide)) rfl T.g_write_stripe T.F_write_stripe.kp T.d_write_stripe .nil passL (pa_cons (pe_fld (pv 0) rfl) (pa_cons (pv 9) (pa_cons (pe_tup (pa_cons (pv 6) (pa_cons (pv 7) pa_nil))) (pa_cons (pv 5) (pa_cons (pe_fld (pv 0) rfl) pa_nil)))))) pa_nil)))))
      pss_nil))))
      (Evl.pss_cut (ps_expr (pe_bm PySem.F.plainAttrs_list PySem.F.slot_list_append PySem.F.type_list_append mt_append (pv 3) (pa_cons (pe_tup (pa_cons pe_str pa_nil)) pa_nil)))
      (Evl.pss_cut (ps_expr (pe_meth (pv 0) T.cl_Store T.m_Store_forget (ok_Store_forget T) (hr.mono (by decide)) T.d_Store_forget .nil pass0 (pa_cons (pe_lock (pe_lc (own := [("pointer", 4)]) (g := (gName 4)) (by rfl) sc_Store_commit.nd (by exact pi_nkeys (pe_fld (pv 0) rfl) : PI _ _ _ (iNKeys _ _)) (blkOk_by (own := [("pointer", 4)]) (N := ["self", "live", "kept", "requests", "pointer", "words", "epoch", "serial", "_", "places", "disk"]) (sc := defScope s_Store_commit) (by decide +kernel))
      (fun _ _ _ _ _ => (pg_name (i := 4) sc_Store_commit.nd rfl (Or.inl rfl))) (fun _ _ _ _ _ => (pts_one (pt_cmp (by exact (pc_nnotin hr.units (pv 4) (pv 2)) : PC _ _ _ _ (tNNotIn a.wd _ _))))) (fun _ _ _ _ _ => (pv 4)))) pa_nil)))
      (Evl.pss_cut (ps_fld (pv 0) pe_nnew rfl)
      (pss_cons (ps_for PassesOwn.never rfl (pi_list (pe_fld (pv 0) rfl)) (pg_name (i := 10) sc_Store_commit.nd rfl (Or.inl rfl))
      (pss_one (ps_expr (pe_meth0 (pe_dget (hu_of hr) (pe_fld (pv 0) rfl) (pv 10) (fun _ _ => rfl)) T.cl_Space T.m_Space_settle (ok_Space_settle T) (hr.mono (by decide)) T.d_Space_settle .nil pass0))))
      (pss_one (ps_ret (pv 3)))))))))), ?_⟩
    refine ⟨_, rfl, LV, rfl, ⟨_, hL⟩, fun Kp nK => nc_it (walk_list (K := K) (a := LV) (xs := ls.map fun b => V.ref b.T)) (fun i H' => Same H H' ∧ ∃ kx : List L2.NE, H' Kp = some (L2.NO a.wd Kp kx) ∧ kx.length ≤ i ∧ L2.NKeys H' kx ∧ ∀ q, (L2.atN kx q).isSome = true ↔ ∃ b ∈ ls.take i, keyB m.ep b = q) ⟨Same.new nK, [], upd_same, Nat.le_refl _, fun _ m => (nomatch m), fun q => by simp [L2.atN]⟩ (fun i H' _ q => q.1.seq hL) ?_ ?_⟩
    · rintro i y H1 H2 hi ⟨s1, kx, d1, l1, k1, q1⟩ ⟨rfl, hy⟩
      obtain ⟨b, hb, rfl⟩ : ∃ b, ls[i]? = some b ∧ y = V.ref b.T := by
        rw [List.getElem?_map] at hy
        cases z : ls[i]? with
        | none => rw [z] at hy; cases hy
        | some b => rw [z] at hy; exact ⟨b, rfl, (Option.some.inj hy).symm⟩
      have mb := hls b (List.mem_of_getElem? hb)
      have nk := ((h.same s1).blk b mb).nk
      have il := item_lt hb
      refine ⟨rfl, _, rfl, b.T, kx, keyB m.ep b, rfl, d1, k1, nk, keyB_depth _ _, fix_bl _, small _ (by omega), same_put s1 nK, L2.putN kx (keyB m.ep b) b.T (.bl true), upd_same, by have := putN_len kx (keyB m.ep b) b.T (.bl true); omega, ?_, fun q => ?_⟩
      · refine (k1.put nk (keyB_depth _ _)).at fun c ys e => ?_
        rw [upd_ne (ne_of e d1 (by intro z; cases z))]
        exact e
      · rw [putN_iff, q1, take_snoc hb]
        constructor
        · rintro (z | ⟨c, mc, z⟩)
          · exact ⟨b, by simp, z.symm⟩
          · exact ⟨c, List.mem_append_left _ mc, z⟩
        · rintro ⟨c, mc, z⟩
          rcases List.mem_append.mp mc with mc | mc
          · exact .inr ⟨c, mc, z⟩
          · rw [List.mem_singleton.mp mc] at z
            exact .inl z.symm
    rintro H1 ⟨s1, kx, dK1, _, k1, q1⟩
    rw [List.length_map, List.take_length] at q1
    have inK : ∀ b ∈ m.bl, ((L2.atN kx (keyB m.ep b)).isSome = true ↔ b.s ∈ ls.map (·.s)) := fun b mb => by
      rw [q1]
      constructor
      · rintro ⟨c, mc, z⟩
        exact List.mem_map.mpr ⟨c, mc, keyB_inj z⟩
      · intro z
        obtain ⟨c, mc, e⟩ := List.mem_map.mp z
        exact ⟨c, mc, by rw [h.ser_one (hls c mc) mb e]⟩
    have h1 := h.same s1
    refine ⟨Nat.zero_le _, fun R nR => ?_⟩
    have h2 := h1.same (Same.new (o := .lst []) nR)
    have s2 := s1.trans (Same.new (o := .lst []) nR)
    have dR2 : upd H1 R (.lst []) R = some (.lst []) := upd_same
    have dK2 : upd H1 R (.lst []) Kp = some (L2.NO a.wd Kp kx) := Same.new nR _ _ dK1
    have k2 := k1.same (Same.new (o := .lst []) nR)
    have nR0 := same_none s1 nR
    have RK : R ≠ Kp := (ne_of_none dK1 nR).symm
    generalize upd H1 R (.lst []) = H2 at h2 s2 dR2 dK2 k2 ⊢
    clear h1 s1 dK1 k1 nR
    -- the stripes
    refine ⟨m.mD, _, h2.hM, True.intro, fun od => ?_⟩
    obtain ⟨HL, hHL⟩ : ∃ HL, HL = upd H2 m.mD (.frz od (L2.NO a.wd m.mD (mxs m.ep m.bl))) := ⟨_, rfl⟩
    have eL : ∀ x, x ≠ m.mD → HL x = H2 x := fun x n => by rw [hHL, upd_ne n]
    have fL : HL m.mD = some (.frz od (L2.NO a.wd m.mD (mxs m.ep m.bl))) := by rw [hHL]; exact upd_same
    have KD : Kp ≠ m.mD := by
      intro z
      have := s2 _ _ h.hM
      obtain ⟨_, e⟩ := h.there (StR.md (S := S) (m := m))
      rw [z, e] at nK
      cases nK
    have RD : R ≠ m.mD := ne_of dR2 h2.hM (by intro z; cases z)
    have SD : S ≠ m.mD := ne_of h2.hS h2.hM (by intro z; cases z)
    have up : ∀ {H' : Hp}, (∀ x o, HL x = some o → x ≠ R → H' x = some o) → ∀ x o, H x = some o → x ≠ m.mD → H' x = some o := fun fr x o e n => fr _ _ (by rw [eL x n]; exact s2 _ _ e) (ne_of_none e nR0)
    obtain ⟨mb, hmb⟩ : ∃ mb, mb = m.bl.filter fun b => b.mem := ⟨_, rfl⟩
    have lmb : (mxs m.ep m.bl).length = mb.length := by unfold mxs mx0; rw [List.length_map, hmb]
    have mb50 : mb.length ≤ 50 := by rw [hmb]; exact Nat.le_trans (List.length_filter_le _ _) l50
    subst hHL
    refine ⟨_, rfl, S, _, m.dx, _, _, rfl, (eL S SD).trans h2.hS, T.cl_Store, T.na_Store_memory, sf_memory m, m.mD, od, mxs m.ep m.bl, rfl, fL, for_it (walk_nitems (w := a.wd) (d := m.mD) (o := od) (xs := mxs m.ep m.bl)) (fun i σ H' => ∃ (v4 v5 v6 v7 v8 v9 : Option V) (vs : List V), σ = [some (.ref S), some (.ref LV), some (.ref Kp), some (.ref R), v4, v5, v6, v7, v8, v9, none] ∧ (∀ x o, upd H2 m.mD (.frz od (L2.NO a.wd m.mD (mxs m.ep m.bl))) x = some o → x ≠ R → H' x = some o) ∧ H' R = some (.lst vs) ∧ vs.length ≤ 8 * i) ⟨none, none, none, none, none, none, [], rfl, fun _ _ e _ => e, (eL R RD).trans dR2, Nat.zero_le _⟩ (fun i σ H' _ ⟨_, _, _, _, _, _, _, _, fr, _⟩ => fr _ _ fL RD.symm) ?_ ?_⟩
    · rintro i y σ H3 H4 hi ⟨v4, v5, v6, v7, v8, v9, vs, rfl, fr, dR3, lv⟩ ⟨t, e, he, rfl, nt, rfl⟩
      obtain ⟨b, hb, rfl⟩ : ∃ b, mb[i]? = some b ∧ e = (keyB m.ep b, b.T, V.ref b.W) := by
        unfold mxs mx0 at he
        rw [← hmb, List.getElem?_map] at he
        cases z : mb[i]? with
        | none => rw [z] at he; cases he
        | some b => rw [z] at he; exact ⟨b, rfl, (Option.some.inj he).symm⟩
      have mbb : b ∈ m.bl ∧ b.mem = true := by
        have := List.mem_of_getElem? hb
        rw [hmb] at this
        exact ⟨(List.mem_filter.mp this).1, (List.mem_filter.mp this).2⟩
      have sT := Same.new (o := .tup [V.ref b.T, V.ref b.W]) nt
      have dt : upd H3 t (.tup [V.ref b.T, V.ref b.W]) t = some (.tup [V.ref b.T, V.ref b.W]) := upd_same
      have fr4 : ∀ x o, upd H2 m.mD (.frz od (L2.NO a.wd m.mD (mxs m.ep m.bl))) x = some o → x ≠ R → upd H3 t (.tup [V.ref b.T, V.ref b.W]) x = some o := fun x o e n => sT _ _ (fr x o e n)
      have dR4 := sT _ _ dR3
      generalize upd H3 t (.tup [V.ref b.T, V.ref b.W]) = H4 at dt fr4 dR4 ⊢
      have up4 := up fr4
      have tup4 : ∀ c ys, H c = some (.tup ys) → H4 c = some (.tup ys) := fun c ys e => up4 c _ e (ne_of e h.hM (by intro z; cases z))
      have lst4 : ∀ c ys, H c = some (.lst ys) → H4 c = some (.lst ys) := fun c ys e => up4 c _ e (ne_of e h.hM (by intro z; cases z))
      have tup2 : ∀ c ys, H2 c = some (.tup ys) → H4 c = some (.tup ys) := fun c ys e => fr4 c _ ((eL c (ne_of e h2.hM (by intro z; cases z))).trans e) (ne_of e dR2 (by intro z; cases z))
      have bk := h.blk b mbb.1
      have nk4 : NK H4 (keyB m.ep b) (.ref b.T) := NK.at tup4 _ _ bk.nk
      have dK4 : H4 Kp = some (L2.NO a.wd Kp kx) := fr4 _ _ ((eL Kp KD).trans dK2) RK.symm
      have hS4 : H4 S = some (.ins a.c_Store m.dx (sflds m)) := up4 _ _ h.hS (ne_of h.hS h.hM (by intro z; cases z))
      refine ⟨t, _, rfl, SqT.of dt, rfl, _, _, rfl, _, _, rfl, rfl, ?_⟩
      refine ⟨_, rfl, _, rfl, Kp, b.T, kx, keyB m.ep b, rfl, .inl dK4, k2.at tup2, rfl, nk4, keyB_depth _ _, _, rfl, ite2 (fun c => ?_) (fun c => ⟨_, _, _, _, _, _, vs, rfl, fr4, dR4, by omega⟩)⟩
      refine ⟨_, rfl, b.T, _, rfl, SqT.of (tup4 _ _ bk.t), rfl, _, _, rfl, _, _, rfl, _, _, rfl, _, _, rfl, rfl, ?_⟩
      refine ⟨_, rfl, .inl ⟨rfl, _, SqL.of dR4⟩, _, rfl, S, _, m.dx, _, _, rfl, hS4, T.cl_Store, T.na_Store_images, sf_images m, _, rfl, _, rfl, _, rfl, by show 2 ≤ sizeLine; decide, fun st nst => ?_⟩
      have s5 := Same.new (o := .tup [V.int m.ep, V.int (b.s : Int)]) nst
      have dst : upd H4 st (.tup [V.int m.ep, V.int (b.s : Int)]) st = some (.tup [V.int m.ep, V.int (b.s : Int)]) := upd_same
      generalize upd H4 st (.tup [V.int m.ep, V.int (b.s : Int)]) = H5 at s5 dst ⊢
      have wl := h.width mbb.1
      have hw8' := hw8 b mbb.1 mbb.2
      have hser := h.ser b mbb.1
      have hI5 : SqL K H5 m.I (ims.map refI) := by
        rcases hI with (g | ⟨o, g⟩) | g
        · exact .inl (.inl (s5 _ _ (lst4 _ _ g)))
        · exact .inl (.inr ⟨o, s5 _ _ (up4 _ _ g (ne_of g h.hM (by intro z; cases z)))⟩)
        · exact .inr g
      · refine ⟨_, rfl, _, rfl, S, _, m.dx, _, _, rfl, s5 _ _ hS4, T.cl_Store, T.na_Store_data, sf_data m, m.I, b.PT, st, b.W, ims, b.L.map (·.2), m.ep, b.s, b.ws, m.data, rfl, hI5, i100, ⟨b.L, SqT.of (s5 _ _ (tup4 _ _ bk.pt)), rfl, fun e me => SqT.of (s5 _ _ (tup4 _ _ (bk.q e me)))⟩, fun q mq => ?_, SqT.of dst, ⟨ep, by omega, by omega⟩, SqL.of (s5 _ _ (lst4 _ _ (bk.w mbb.2))), d1, by rw [List.length_map]; exact hw8'.2, by rw [List.length_map]; omega, .inl hw8'.1, fun z => by omega, fun _ D L H6 s6 nD W6 e6 => ?_⟩
        · obtain ⟨e, me, rfl⟩ := List.mem_map.mp mq
          obtain ⟨r1, r2⟩ := h.row b mbb.1 e me
          have r3 := h.m0 _ r1
          omega
        have lL : L.length ≤ 8 := by
          have h1 : L.length = _ := (List.length_map rqM).symm.trans (congrArg List.length e6)
          have h3 := Nat.le_trans (Nat.le_of_eq h1) (req_len ims (b.L.map (·.2)) m.ep b.s (stripeM b.ws m.data (b.L.map (·.2)).length) (List.range (b.L.map (·.2)).length))
          rw [List.length_range, List.length_map] at h3
          omega
        refine ⟨R, D, _, _, rfl, rfl, s6 _ _ (s5 _ _ dR4), W6.1, Nat.le_of_lt (small _ (by rw [List.length_map]; omega)), _, _, _, _, _, _, vs ++ L.map rqV, rfl, fun x o e n => ?_, upd_same, by rw [List.length_append, List.length_map]; omega⟩
        rw [upd_ne n]
        exact s6 _ _ (s5 _ _ (fr4 x o e n))
    rintro σ H3 ⟨v4, v5, v6, v7, v8, v9, vs, rfl, fr, dR3, lv⟩
    refine ⟨fr _ _ fL RD.symm, ?_⟩
    have fr7 : ∀ x o, H2 x = some o → x ≠ R → upd H3 m.mD (L2.NO a.wd m.mD (mxs m.ep m.bl)) x = some o := fun x o e n => by
      by_cases c : x = m.mD
      · rw [c, upd_same]
        rw [c, h2.hM] at e
        exact e
      · rw [upd_ne c]
        exact fr _ _ ((eL x c).trans e) n
    have dR7 : upd H3 m.mD (L2.NO a.wd m.mD (mxs m.ep m.bl)) R = some (.lst vs) := by rw [upd_ne RD]; exact dR3
    have lv : vs.length ≤ 400 := by rw [lmb] at lv; omega
    have h7 : Stor a (upd H3 m.mD (L2.NO a.wd m.mD (mxs m.ep m.bl))) S m := h.keep fun b o e r => fr7 _ _ (s2 _ _ e) (ne_of_none e nR0)
    have f7 : ∀ x o, H x = some o → upd H3 m.mD (L2.NO a.wd m.mD (mxs m.ep m.bl)) x = some o := fun x o e => fr7 _ _ (s2 _ _ e) (ne_of_none e nR0)
    have dK7 := fr7 _ _ dK2 RK.symm
    have k7 : L2.NKeys (upd H3 m.mD (L2.NO a.wd m.mD (mxs m.ep m.bl))) kx := k2.at fun c ys e => fr7 _ _ e (ne_of e dR2 (by intro z; cases z))
    clear fr eL fL dR3 up fr7 dR2 dK2 k2 h2 s2
    -- flush
    refine ⟨fun σ H' => σ = [some (.ref S), some (.ref LV), some (.ref Kp), some (.ref R), v4, v5, v6, v7, v8, v9, none] ∧ (∀ x o, H x = some o → H' x = some o) ∧ Stor a H' S m ∧ H' Kp = some (L2.NO a.wd Kp kx) ∧ L2.NKeys H' kx ∧ ∃ vs, H' R = some (.lst vs), ?_, ?_⟩
    · refine ⟨_, rfl, .inl ⟨rfl, _, SqL.of dR7⟩, by show 1 ≤ sizeLine; decide, fun t nt => ⟨R, _, _, rfl, rfl, Same.new nt _ _ dR7, small _ (by omega), ?_⟩⟩
      have s8 := Same.new (o := .tup [V.str "flush"]) nt
      refine ⟨rfl, fun x o e => (upd_ne (ne_of_none e nR0)).trans (s8 _ _ (f7 _ _ e)), (h7.same s8).put (h.fresh nR0), (upd_ne RK.symm).trans (s8 _ _ dK7), (k7.same s8).at fun c ys e => (upd_ne (ne_of e (s8 _ _ dR7) (by intro z; cases z))).trans e, _, upd_same⟩
    rintro σ H4 ⟨rfl, f4, h4, dK4, k4, vs', dR4⟩
    clear h7 f7 dK7 k7 dR7 lv
    obtain ⟨p, hp⟩ : ∃ p : Blk → Bool, p = fun b => decide (b.s ∈ ls.map (·.s)) := ⟨_, rfl⟩
    -- forget
    refine ⟨fun σ H' => ∃ v4 : Option V, σ = [some (.ref S), some (.ref LV), some (.ref Kp), some (.ref R), v4, v5, v6, v7, v8, v9, none] ∧ StorP a H' S (m.with (m.bl.filter p)) (giveF (phiM m.bl) (plcs (m.bl.filter fun b => !p b))) ∧ (∀ x o, H x = some o → ¬ StR S m x → H' x = some o), ?_, ?_⟩
    · refine ⟨_, rfl, S, m.dx, _, rfl, h4.hS, by kernel_rfl, m.bD, _, h4.hb, True.intro, fun od => ?_⟩
      obtain ⟨HL, hHL⟩ : ∃ HL, HL = upd H4 m.bD (.frz od (L2.NO a.wd m.bD (bxs m.ep m.bl))) := ⟨_, rfl⟩
      have eL : ∀ b, b ≠ m.bD → HL b = H4 b := fun b n => by rw [hHL, upd_ne n]
      have fL : HL m.bD = some (.frz od (L2.NO a.wd m.bD (bxs m.ep m.bl))) := by rw [hHL]; exact upd_same
      have SD : S ≠ m.bD := ne_of h4.hS h4.hb (by intro z; cases z)
      have KD : Kp ≠ m.bD := by
        intro z
        obtain ⟨_, e⟩ := h.there (StR.bd (S := S) (m := m))
        rw [z, e] at nK
        cases nK
      have dKL : HL Kp = some (L2.NO a.wd Kp kx) := (eL _ KD).trans dK4
      have tupL : ∀ c ys, H4 c = some (.tup ys) → HL c = some (.tup ys) := fun c ys e => (eL _ (ne_of e h4.hb (by intro z; cases z))).trans e
      subst hHL
      refine ⟨_, rfl, S, _, m.dx, _, _, rfl, (eL _ SD).trans h4.hS, T.cl_Store, T.na_Store_blocks, sf_blocks m, m.bD, od, bxs m.ep m.bl, rfl, fL, fun P nP => lc_it (walk_nkeys (w := a.wd) (d := m.bD) (o := od) (xs := bxs m.ep m.bl)) (fun i H' => Same (upd H4 m.bD (.frz od (L2.NO a.wd m.bD (bxs m.ep m.bl)))) H' ∧ H' P = some (.lst (((m.bl.take i).filter fun b => !p b).map fun b => V.ref b.T))) ⟨Same.new nP, upd_same⟩ (fun i H' _ q => q.1 _ _ fL) ?_ ?_⟩
      · rintro i y H5 H6 hi ⟨s5, d5⟩ ⟨rfl, e, he, rfl⟩
        obtain ⟨b, hb, rfl⟩ : ∃ b, m.bl[i]? = some b ∧ e = (keyB m.ep b, b.T, V.bl true) := by
          unfold bxs at he
          rw [List.getElem?_map] at he
          cases z : m.bl[i]? with
          | none => rw [z] at he; cases he
          | some b => rw [z] at he; exact ⟨b, rfl, (Option.some.inj he).symm⟩
        have mbb := List.mem_of_getElem? hb
        have il := item_lt hb
        have nk : NK H6 (keyB m.ep b) (.ref b.T) := NK.at (fun c ys e => s5 _ _ (tupL c ys e)) _ _ (h4.blk b mbb).nk
        refine ⟨rfl, _, rfl, _, rfl, Kp, b.T, kx, keyB m.ep b, rfl, .inl (s5 _ _ dKL), k4.at fun c ys e => s5 _ _ (tupL c ys e), rfl, nk, keyB_depth _ _, _, rfl, ?_⟩
        have lt : ((m.bl.take i).filter fun b => !p b).length ≤ i := Nat.le_trans (List.length_filter_le _ _) (by rw [List.length_take]; omega)
        have e0 := inK b mbb
        by_cases c : b.s ∈ ls.map (·.s)
        · rw [e0.mpr c]
          refine iteF ⟨s5, ?_⟩
          rw [take_snoc hb, List.filter_append]
          have e1 : List.filter (fun b : Blk => !p b) [b] = [] := by rw [List.filter_cons, if_neg (by rw [hp]; simpa using c)]; rfl
          rw [e1, List.append_nil]
          exact d5
        · have z : (L2.atN kx (keyB m.ep b)).isSome = false := Bool.eq_false_iff.mpr fun z => c (e0.mp z)
          rw [z]
          refine iteT ⟨_, rfl, _, d5, small _ (by rw [List.length_map]; omega), same_put s5 nP, ?_⟩
          rw [take_snoc hb, List.filter_append, upd_same]
          have e1 : List.filter (fun b : Blk => !p b) [b] = [b] := by rw [List.filter_cons, if_pos (by rw [hp]; simpa using c)]; rfl
          rw [e1, List.map_append]
          rfl
      rintro H5 ⟨s5, d5⟩
      have lx : (bxs m.ep m.bl).length = m.bl.length := List.length_map _
      rw [lx, List.take_length] at d5
      have PD : P ≠ m.bD := (ne_of_none fL nP).symm
      have nP4 : H4 P = none := (eL _ PD).symm.trans nP
      refine ⟨s5 _ _ fL, ?_⟩
      have s6 : Same H4 (upd H5 m.bD (L2.NO a.wd m.bD (bxs m.ep m.bl))) := fun b o e => by
        by_cases c : b = m.bD
        · rw [c, upd_same]
          rw [c, h4.hb] at e
          exact e
        · rw [upd_ne c]
          exact s5 _ _ ((eL _ c).trans e)
      have d6 : upd H5 m.bD (L2.NO a.wd m.bD (bxs m.ep m.bl)) P = some (.lst ((m.bl.filter fun b => !p b).map fun b => V.ref b.T)) := by rw [upd_ne PD]; exact d5
      refine ⟨S, P, m, m.bl.filter fun b => !p b, phiM m.bl, rfl, h4.same s6, SqL.of d6, h4.fresh nP4, List.filter_sublist, l50, r1000, fun b mbb q mq => ?_, fun H7 st fr7 => ⟨_, rfl, ?_, fun x o e n => fr7 x o (s6 _ _ (f4 _ _ e)) n⟩⟩
      · rw [h.phi (List.mem_filter.mp mbb).1 mq]
        unfold codeM
        split <;> simp
      have eq : (m.bl.filter fun b => decide (b.s ∉ (m.bl.filter fun b => !p b).map (·.s))) = m.bl.filter p := List.filter_congr fun b mbb => by
        have : b.s ∈ (m.bl.filter fun b => !p b).map (·.s) ↔ p b = false := by
          rw [List.mem_map]
          constructor
          · rintro ⟨c, mc, e⟩
            have e2 := h.ser_one (List.mem_filter.mp mc).1 mbb e
            rw [← e2]
            simpa using (List.mem_filter.mp mc).2
          · exact fun z => ⟨b, List.mem_filter.mpr ⟨mbb, by rw [z]; rfl⟩, rfl⟩
        by_cases c : p b = true
        · have n1 : b.s ∉ (m.bl.filter fun b => !p b).map (·.s) := fun z => by rw [this.mp z] at c; cases c
          rw [c, decide_eq_true n1]
        · have c : p b = false := by simpa using c
          have n1 : ¬ b.s ∉ (m.bl.filter fun b => !p b).map (·.s) := fun z => z (this.mpr c)
          rw [c, decide_eq_false n1]
      rw [← eq]
      exact st
    rintro σ H5 ⟨v4, rfl, h5, f5⟩
    clear f4 h4 dK4 k4 dR4
    obtain ⟨ψ, hψ⟩ : ∃ ψ, ψ = giveF (phiM m.bl) (plcs (m.bl.filter fun b => !p b)) := ⟨_, rfl⟩
    rw [← hψ] at h5
    have none5 : ∀ x, H5 x = none → StR S m x ∨ H x = none := fun x n => Classical.byContradiction fun z => by
      cases e : H x with
      | none => exact z (.inr e)
      | some o => rw [f5 x o e fun r => z (.inl r)] at n; cases n
    -- nothing in memory
    refine ⟨fun σ H' => ∃ N : Addr, σ = [some (.ref S), some (.ref LV), some (.ref Kp), some (.ref R), v4, v5, v6, v7, v8, v9, none] ∧ StorP a H' S ((m.with (m.bl.filter p)).clear N) ψ ∧ (∀ x o, H x = some o → ¬ StR S m x → H' x = some o) ∧ (StR S m N ∨ H N = none) ∧ ∀ x, H' x = none → StR S m x ∨ H x = none, ?_, ?_⟩
    · refine fun N nN => ?_
      have NS : N ≠ S := (ne_of_none h5.hS nN).symm
      have e5 : putF "_memory" (.ref N) (sflds (m.with (m.bl.filter p))) = sflds { (m.with (m.bl.filter p)) with mD := N } := sf_set_memory _ N
      refine ⟨_, rfl, S, _, m.dx, _, rfl, (upd_ne NS.symm).trans h5.hS, T.cl_Store, T.na_Store_memory, (by show 10 < 1000; decide), ?_⟩
      have k6 : ∀ (u1 u2 : HO) x o, H5 x = some o → x ≠ S → upd (upd H5 N u1) S u2 x = some o := fun u1 u2 x o e n => by
        rw [upd_ne n, upd_ne (ne_of_none e nN)]
        exact e
      have f6 : ∀ (u1 u2 : HO) x o, H x = some o → ¬ StR S m x → upd (upd H5 N u1) S u2 x = some o := fun u1 u2 x o e n => k6 u1 u2 x o (f5 x o e n) fun z => n (by rw [z]; exact .s)
      refine ⟨N, rfl, ?_, f6 _ _, none5 N nN, fun x nx => ?_⟩
      · refine h5.forgotten nN ?_ ((upd_ne NS).trans upd_same) (k6 _ _)
        refine upd_same.trans ?_
        rw [← e5]
        rfl
      · refine Classical.byContradiction fun z => ?_
        cases e : H x with
        | none => exact z (.inr e)
        | some o => rw [f6 _ _ x o e fun r => z (.inl r)] at nx; cases nx
    clear f5 h5 none5
    rintro σ H6 ⟨N, rfl, h6, f6, upN, none6⟩
    obtain ⟨m3, hm3⟩ : ∃ m3, m3 = (m.with (m.bl.filter p)).clear N := ⟨_, rfl⟩
    rw [← hm3] at h6
    have up3 : ∀ x, StR S m3 x → StR S m x ∨ H x = none := fun x r => by
      rw [hm3] at r
      cases r with
      | s => exact .inl .s
      | ml => exact .inl .ml
      | spd => exact .inl .spd
      | bd => exact .inl .bd
      | md => exact upN
      | s1 d md => exact .inl (.s1 d md)
      | s2 d md => exact .inl (.s2 d md)
      | t b mb =>
        obtain ⟨c, mc, rfl⟩ := List.mem_map.mp mb
        exact .inl (.t c (List.mem_filter.mp mc).1)
      | pt b mb =>
        obtain ⟨c, mc, rfl⟩ := List.mem_map.mp mb
        exact .inl (.pt c (List.mem_filter.mp mc).1)
      | w b mb z =>
        obtain ⟨c, mc, rfl⟩ := List.mem_map.mp mb
        cases z
      | q b e mb me =>
        obtain ⟨c, mc, rfl⟩ := List.mem_map.mp mb
        exact .inl (.q c e (List.mem_filter.mp mc).1 me)
    have ms3 : m3.ms = m.ms := by rw [hm3]; rfl
    have r3 : m3.rows = m.rows := by rw [hm3]; rfl
    have nodup : m.ms.Nodup := h.nd.imp fun h => Int.ne_of_lt h
    -- settle
    refine ⟨_, rfl, S, _, m3.dx, _, _, rfl, h6.hS, T.cl_Store, T.na_Store_members, sf_members m3, m3.mL, rfl, ⟨_, SqL.of h6.hm⟩, for_list (K := K) (a := m3.mL) (xs := m3.ms.map V.int) (fun i σ H' => ∃ (v10 : Option V) (sp : Int → Addr × Addr), σ = [some (.ref S), some (.ref LV), some (.ref Kp), some (.ref R), v4, v5, v6, v7, v8, v9, v10] ∧ StorP a H' S { m3 with sp := sp } (fun d => if d ∈ m.ms.take i then settF (ψ d) else ψ d) ∧ (∀ x o, H x = some o → ¬ StR S m x → H' x = some o) ∧ ∀ x, StR S { m3 with sp := sp } x → StR S m x ∨ H x = none) ⟨none, m3.sp, rfl, h6.psi fun d _ => by rw [List.take_zero, if_neg (by simp)], f6, up3⟩ (fun i σ H' _ ⟨_, _, _, st, _⟩ => SqL.of st.hm) ?_ ?_⟩
    · rintro i y σ H7 hy ⟨v10, sp, rfl, st, f7, up7⟩
      obtain ⟨d, hd, rfl⟩ := int_item hy
      have md := List.mem_of_getElem? hd
      rw [ms3] at hd
      have nd : d ∉ m.ms.take i := by
        have := new_place (A := []) (B := m.ms) nodup hd
        rwa [List.nil_append] at this
      obtain ⟨mx, hmx⟩ : ∃ mx : SM, mx = { m3 with sp := sp } := ⟨_, rfl⟩
      have mdx : d ∈ mx.ms := by rw [hmx]; exact md
      rw [← hmx] at st up7
      obtain ⟨dx', low, M, e1, _⟩ := id (st.sp d mdx)
      refine ⟨_, rfl, S, _, mx.dx, _, _, rfl, st.hS, T.cl_Store, T.na_Store_spaces, sf_spaces mx, _, rfl, mx.spd, _, rfl, st.spget mdx, (mx.sp d).1, dx', _, rfl, e1, rfl, (mx.sp d).1, (mx.sp d).2, 18, mx.rows, _, rfl, st.sp d mdx, by rw [hmx]; show m3.rows ≤ 1000; rw [r3]; exact r1000, fun e H8 ne sp8 fr8 => ?_⟩
      have st8 := st.resp mdx ne sp8 fr8
      have none7 : StR S m e ∨ H e = none := Classical.byContradiction fun z => by
        cases q : H e with
        | none => exact z (.inr q)
        | some o => rw [f7 e o q fun r => z (.inl r)] at ne; cases ne
      have ers : { m3 with sp := (mx.resp d e).sp } = mx.resp d e := by rw [hmx]; rfl
      refine ⟨_, (mx.resp d e).sp, rfl, ?_, fun x o ex n => ?_, fun x r => ?_⟩
      · rw [ers]
        refine st8.psi fun x mx' => ?_
        show (if x = d then settF (if d ∈ m.ms.take i then settF (ψ d) else ψ d) else if x ∈ m.ms.take i then settF (ψ x) else ψ x) = if x ∈ m.ms.take (i + 1) then settF (ψ x) else ψ x
        rw [take_snoc hd]
        by_cases c : x = d
        · subst c
          rw [if_pos rfl, if_neg nd, if_pos (by simp)]
        · rw [if_neg c]
          have : x ∈ m.ms.take i ++ [d] ↔ x ∈ m.ms.take i := by
            rw [List.mem_append, List.mem_singleton]
            exact ⟨fun z => z.elim id fun z => absurd z c, .inl⟩
          simp only [this]
      · have off : ∀ y, StR S mx y → x ≠ y := fun y ry z => by
          rw [← z] at ry
          rcases up7 x ry with u | u
          · exact n u
          · rw [u] at ex; cases ex
        exact fr8 _ _ (f7 x o ex n) (off _ (.s1 d mdx)) (off _ (.s2 d mdx))
      · rw [ers] at r
        cases r with
        | s => exact up7 _ .s
        | ml => exact up7 _ (.ml (m := mx))
        | spd => exact up7 _ (.spd (m := mx))
        | bd => exact up7 _ (.bd (m := mx))
        | md => exact up7 _ (.md (m := mx))
        | s1 y my =>
          have := up7 _ (.s1 (m := mx) y my)
          show StR S m (if y = d then ((mx.sp d).1, e) else mx.sp y).1 ∨ H (if y = d then ((mx.sp d).1, e) else mx.sp y).1 = none
          by_cases c : y = d
          · rw [if_pos c]
            rw [c] at this
            exact this
          · rw [if_neg c]
            exact this
        | s2 y my =>
          have := up7 _ (.s2 (m := mx) y my)
          show StR S m (if y = d then ((mx.sp d).1, e) else mx.sp y).2 ∨ H (if y = d then ((mx.sp d).1, e) else mx.sp y).2 = none
          by_cases c : y = d
          · rw [if_pos c]
            exact none7
          · rw [if_neg c]
            exact this
        | t b mb => exact up7 _ (.t (m := mx) b mb)
        | pt b mb => exact up7 _ (.pt (m := mx) b mb)
        | w b mb z => exact up7 _ (.w (m := mx) b mb z)
        | q b e mb me => exact up7 _ (.q (m := mx) b e mb me)
    rintro σ H7 ⟨v10, sp, rfl, st, f7, up7⟩
    replace st := st.psi (ψ' := fun d => if d ∈ m.ms then settF (ψ d) else ψ d) fun d _ => by rw [List.length_map, ms3, List.take_length]
    refine ⟨_, rfl, k R { m3 with sp := sp } H7 (st.psi fun d md => ?_) ⟨by rw [hm3]; rfl, by rw [hm3]; rfl, by rw [hm3]; rfl, by rw [hm3]; rfl, by rw [hm3]; rfl, by rw [hm3]; rfl⟩ ms3 (by rw [hm3, hp]; rfl) f7 up7 nR0⟩
    have md : d ∈ m3.ms := md
    rw [ms3] at md
    rw [if_pos md, hψ, settle_phi h p d]
    show _ = phiM m3.bl d
    rw [hm3]
    rfl
theorem sc_law : FnScope ["script", "pot", "width", "used", "k", "store", "blocks", "kind", "disk", "found", "del_later", "place", "other", "block"] ["script"] (defScope s_law) := ⟨rfl, rfl, rfl, by decide +kernel, rfl, by decide +kernel, by decide +kernel⟩
theorem ok_law (T : Txt w K mg a) : FnOk P w K mg base CX0 11 a.f_law a.d_law ["script"] (sp_law K a) := by
  refine T.F_law.ok sc_law (fun vs H Q E h => ?len) (fun cdv A outer s H vs Q E hr h => ?body)
  case len =>
    exact sp_law_len h
  case body =>
    obtain ⟨s, ns, rfl, hS, short, k⟩ := h
    have hw := T.hw
    subst hw
    refine ⟨_, (pss_cons (ps_set (i := 1) sc_law.nd rfl (Or.inr rfl) (pe_call (ok_law_pot T) (hr.mono (by decide)) rfl T.g_law_pot T.F_law_pot.kp T.d_law_pot .nil pass0 (pa_cons (pv 0) pa_nil)))
      (pss_cons (ps_set (i := 2) sc_law.nd rfl (Or.inl rfl) (pe_op op_add pe_int (pe_call (ok_law_next T) (hr.mono (by decide)) rfl T.g_law_next T.F_law_next.kp T.d_law_next .nil pass0 (pa_cons (pv 1) (pa_cons pe_int pa_nil)))))
      (Evl.pss_cut (ps_set (i := 3) sc_law.nd rfl (Or.inr rfl) pe_dnewK)
      (pss_cons (ps_for PassesOwn.never rfl (pi_range1 (by rfl) T.n_range (pa_cons (pe_op op_add pe_int (pe_call (ok_law_next T) (hr.mono (by decide)) rfl T.g_law_next T.F_law_next.kp T.d_law_next .nil pass0 (pa_cons (pv 1) (pa_cons pe_int pa_nil)))) pa_nil)) (pg_name (i := 4) sc_law.nd rfl (Or.inl rfl))
      (pss_one (ps_dput (hu_of hr) (pv 3) (pe_call (ok_law_next T) (hr.mono (by decide)) rfl T.g_law_next T.F_law_next.kp T.d_law_next .nil pass0 (pa_cons (pv 1) (pa_cons pe_int pa_nil))) pe_int rfl)))
      (Evl.pss_cut (ps_set (i := 5) sc_law.nd rfl (Or.inl rfl) (pe_makeK0 T.mk_Store (ok_Store_init T) (hr.mono (by decide)) rfl T.g_Store T.d_Store_init pass0 (pk_cons pe_int (pk_cons (pe_op op_sub (pv 2) pe_int) (pk_cons pe_int (pk_cons (pe_callB (cr_sortDk rfl hr.units) (by rfl) T.n_sorted (by decide +kernel) (pa_cons (pv 3) pa_nil)) (pk_cons pe_int pk_nil)))))))
      (pss_cons (ps_expr (pe_meth (pv 5) T.cl_Store T.m_Store_look (ok_Store_look T) (hr.mono (by decide)) T.d_Store_look .nil pass0 (pa_cons (pe_lc (own := [("k", 4)]) (g := (gName 4)) (by rfl) sc_law.nd (pi_range1 (by rfl) T.n_range (pa_cons pe_int pa_nil)) (blkOk_by (own := [("k", 4)]) (N := ["script", "pot", "width", "used", "k", "store", "blocks", "kind", "disk", "found", "del_later", "place", "other", "block"]) (sc := defScope s_law) (by decide +kernel))
      (fun _ _ _ _ _ => (pg_name (i := 4) sc_law.nd rfl (Or.inl rfl))) (fun _ _ _ _ _ => pts_nil) (fun _ _ _ _ _ => (pe_op op_rep (pe_lst (pa_cons pe_non pa_nil)) pe_int))) pa_nil)))
      (Evl.pss_cut (ps_set (i := 6) sc_law.nd rfl (Or.inl rfl) (pe_lst pa_nil))
      (pss_cons (ps_for PassesOwn.never rfl (pi_range1 (by rfl) T.n_range (pa_cons (pe_op op_add pe_int (pe_callB (call_min2 rfl) (by rfl) T.n_min (by decide +kernel) (pa_cons (pe_op op_fdiv (pe_callB call_len_seq (by rfl) T.n_len PySem.boot_len (pa_cons (pv 0) pa_nil)) pe_int) (pa_cons pe_int pa_nil)))) pa_nil)) (pg_name (i := 4) sc_law.nd rfl (Or.inl rfl))
      (pss_cons (ps_set (i := 7) sc_law.nd rfl (Or.inl rfl) (pe_call (ok_law_next T) (hr.mono (by decide)) rfl T.g_law_next T.F_law_next.kp T.d_law_next .nil pass0 (pa_cons (pv 1) (pa_cons pe_int pa_nil))))
      (pss_cons (ps_set (i := 8) sc_law.nd rfl (Or.inr rfl) (pe_call (ok_law_next T) (hr.mono (by decide)) rfl T.g_law_next T.F_law_next.kp T.d_law_next .nil pass0 (pa_cons (pv 1) (pa_cons pe_int pa_nil))))
      (Evl.pss_cut (ps_if (pt_cmpR op_eq (pv 7) pe_int (nomark _))
      (pss_cons (ps_set (i := 9) sc_law.nd rfl (Or.inl rfl) (pe_call (ok_law_add T) (hr.mono (by decide)) rfl T.g_law_add T.F_law_add.kp T.d_law_add .nil pass0 (pa_cons (pv 5) (pa_cons (pv 8) pa_nil))))
      (pss_cons (ps_if (PW.pt (pw_or (PW.pt (pw_and (pt_cmp (pc_din (hu_of hr) (pv 8) (pv 3))) (pw_and1 (pt_cmpR op_ne (pv 9) pe_int (nomark _))))) (pw_or1 (PW.pt (pw_and (pt_cmp (pc_dnotin (hu_of hr) (pv 8) (pv 3))) (pw_and1 (pt_cmpR op_notBl (pv 9) pe_bl (nomark _))))))))
      (pss_one (ps_ret pe_bl))
      pss_nil)
      (pss_one (ps_dput (hu_of hr) (pv 3) (pv 8) (pe_dget2 (hu_of hr) (pv 3) (pv 8) pe_int ⟨rfl, rfl, rfl, rfl⟩) rfl))))
      (pss_one (ps_if (pt_cmpR op_eq (pv 7) pe_int (nomark _))
      (pss_cons (ps_set (i := 9) sc_law.nd rfl (Or.inl rfl) (pe_call (ok_law_drop T) (hr.mono (by decide)) rfl T.g_law_drop T.F_law_drop.kp T.d_law_drop .nil pass0 (pa_cons (pv 5) (pa_cons (pv 8) pa_nil))))
      (pss_one (ps_if (PW.pt (pw_and (pt_cmp (pc_din (hu_of hr) (pv 8) (pv 3))) (pw_and1 (pt_cmpR op_eq (pe_dget (hu_of hr) (pv 3) (pv 8) (fun _ _ => rfl)) pe_int (nomark _)))))
      (pss_cons (ps_if (pt_cmpR op_notBl (pv 9) pe_bl (nomark _))
      (pss_one (ps_ret pe_bl))
      pss_nil)
      (pss_cons (ps_setLc (i := 10) (own := [("other", 12)]) (g := (gName 12)) (by rfl) sc_law.nd rfl rfl (sw_true rfl rfl rfl (by decide +kernel)) (pi_list (pe_callB (cr_sortDk rfl hr.units) (by rfl) T.n_sorted (by decide +kernel) (pa_cons (pv 3) pa_nil))) (blkOk_by (own := [("other", 12)]) (N := ["script", "pot", "width", "used", "k", "store", "blocks", "kind", "disk", "found", "del_later", "place", "other", "block"]) (sc := defScope s_law) (by decide +kernel))
      (fun _ _ _ _ _ => (pg_name (i := 12) sc_law.nd rfl (Or.inl rfl))) (fun _ _ _ _ _ => (pts_one (pt_cmpR op_ne (pv 12) (pv 8) (nomark _)))) (fun _ _ _ _ _ => (pv 12)))
      (pss_one (ps_set (i := 3) sc_law.nd rfl (Or.inr rfl) (pe_callTy (call_dictP rfl) (by rfl) T.n_dict (by decide +kernel) (pa_cons (pe_lc (own := [("other", 12)]) (g := (gName 12)) (by rfl) sc_law.nd (pi_list (pv 10)) (blkOk_by (own := [("other", 12)]) (N := ["script", "pot", "width", "used", "k", "store", "blocks", "kind", "disk", "found", "del_later", "place", "other", "block"]) (sc := defScope s_law) (by decide +kernel))
      (fun _ _ _ _ _ => (pg_name (i := 12) sc_law.nd rfl (Or.inl rfl))) (fun _ _ _ _ _ => pts_nil) (fun _ _ _ _ _ => (pe_tup (pa_cons (pv 12) (pa_cons (pe_dget (hu_of hr) (pv 3) (pv 12) (fun _ _ => rfl)) pa_nil))))) pa_nil))))))
      (pss_one (ps_if (pt_cmpR op_ne (pv 9) pe_int (nomark _))
      (pss_one (ps_ret pe_bl))
      pss_nil)))))
      (pss_one (ps_if (pt_cmpR op_eq (pv 7) pe_int (nomark _))
      (pss_cons (ps_set (i := 9) sc_law.nd rfl (Or.inl rfl) (pe_call (ok_law_put T) (hr.mono (by decide)) rfl T.g_law_put T.F_law_put.kp T.d_law_put .nil pass0 (pa_cons (pv 5) pa_nil)))
      (pss_one (ps_if (pt_cmpR op_lt (pe_callB call_lenD (by rfl) T.n_len PySem.boot_len (pa_cons (pv 3) pa_nil)) (pv 2) (nomark _))
      (pss_one (ps_if (pt_cmpR op_notBl (pv 9) pe_bl (nomark _))
      (pss_one (ps_ret pe_bl))
      pss_nil))
      (pss_cons (ps_if (PW.pt (pw_or (pt_not (pt_val (pe_callB call_isi (by rfl) T.n_isinstance (by decide +kernel) (pa_cons (pv 9) (pa_cons (pe_bltn (v := .ty "tuple") (by rfl) T.n_tuple (by decide +kernel) rfl) pa_nil))))) (pw_or1 (pt_not (pt_val (pe_callB (cr_all rfl) (by rfl) T.n_all (by decide +kernel) (pa_cons (pe_lc (own := [("place", 11)]) (g := (gName 11)) (by rfl) sc_law.nd (pi_tup (pe_ix ix_tup (pv 9) pe_int (fun _ _ => rfl))) (blkOk_by (own := [("place", 11)]) (N := ["script", "pot", "width", "used", "k", "store", "blocks", "kind", "disk", "found", "del_later", "place", "other", "block"]) (sc := defScope s_law) (by decide +kernel))
      (fun _ _ _ _ _ => (pg_name (i := 11) sc_law.nd rfl (Or.inl rfl))) (fun _ _ _ _ _ => pts_nil) (fun _ _ _ _ _ => (pe_cmp (pc_din (hu_of hr) (pe_ix (by exact ix_tup : IxR _ (rIxT K)) (pv 11) pe_int (fun _ _ => rfl)) (pv 3))))) pa_nil)))))))
      (pss_one (ps_ret pe_bl))
      pss_nil)
      (pss_cons (ps_expr (pe_bm PySem.F.plainAttrs_list PySem.F.slot_list_append PySem.F.type_list_append mt_append (pv 6) (pa_cons (pv 9) pa_nil)))
      (pss_one (ps_for PassesOwn.never rfl (pi_tup (pe_ix ix_tup (pv 9) pe_int (fun _ _ => rfl))) (pg_name (i := 11) sc_law.nd rfl (Or.inl rfl))
      (pss_one (ps_dput (hu_of hr) (pv 3) (pe_ix ix_tup (pv 11) pe_int (fun _ _ => rfl)) (pe_op op_add (pe_dget (hu_of hr) (pv 3) (pe_ix ix_tup (pv 11) pe_int (fun _ _ => rfl)) (fun _ _ => rfl)) pe_int) rfl)))))))))
      (Evl.pss_cut (ps_setLc (i := 6) (own := [("block", 13)]) (g := (gName 13)) (by rfl) sc_law.nd rfl rfl (sw_true rfl rfl rfl (by decide +kernel)) (pi_list (pv 6)) (blkOk_by (own := [("block", 13)]) (N := ["script", "pot", "width", "used", "k", "store", "blocks", "kind", "disk", "found", "del_later", "place", "other", "block"]) (sc := defScope s_law) (by decide +kernel))
      (fun _ _ _ _ _ => (pg_name (i := 13) sc_law.nd rfl (Or.inl rfl))) (fun _ _ _ _ _ => (pts_one (pt_cmpR op_gt (pe_call (ok_law_next T) (hr.mono (by decide)) rfl T.g_law_next T.F_law_next.kp T.d_law_next .nil pass0 (pa_cons (pv 1) (pa_cons pe_int pa_nil))) pe_int (nomark _)))) (fun _ _ _ _ _ => (pv 13)))
      (pss_cons (ps_expr (pe_meth (pv 5) T.cl_Store T.m_Store_commit (ok_Store_commit T) (hr.mono (by decide)) T.d_Store_commit .nil pass0 (pa_cons (pv 6) pa_nil)))
      (pss_one (ps_for PassesOwn.never rfl (pi_list (pe_callB (cr_sortDk rfl hr.units) (by rfl) T.n_sorted (by decide +kernel) (pa_cons (pv 3) pa_nil))) (pg_name (i := 12) sc_law.nd rfl (Or.inr rfl))
      (pss_one (ps_dput (hu_of hr) (pv 3) (pv 12) (pe_callB call_len_seq (by rfl) T.n_len PySem.boot_len (pa_cons (pe_lc (own := [("block", 13)]) (g := (gName 13)) (by rfl) sc_law.nd (pi_list (pv 6)) (blkOk_by (own := [("block", 13)]) (N := ["script", "pot", "width", "used", "k", "store", "blocks", "kind", "disk", "found", "del_later", "place", "other", "block"]) (sc := defScope s_law) (by decide +kernel))
      (fun _ _ _ _ _ => (pg_name (i := 13) sc_law.nd rfl (Or.inl rfl))) (fun _ _ _ _ _ => (pts_one (pt_cmpR (by exact op_in_seq : OpR _ _ (rIn K false)) (pv 12) (pe_lc (own := [("place", 11)]) (g := (gName 11)) (by rfl) sc_law.nd (by exact pi_tup (pe_ix (by exact ix_tup : IxR _ (rIxT K)) (pv 13) pe_int (fun _ _ => rfl)) : PI _ _ _ (iTup K _)) (blkOk_by (own := [("place", 11)]) (N := ["script", "pot", "width", "used", "k", "store", "blocks", "kind", "disk", "found", "del_later", "place", "other", "block"]) (by kernel_rfl))
      (fun _ _ _ _ _ => (pg_name (i := 11) sc_law.nd rfl (Or.inl rfl))) (fun _ _ _ _ _ => pts_nil) (fun _ _ _ _ _ => (pe_ix (by exact ix_tup : IxR _ (rIxT K)) (pv 11) pe_int (fun _ _ => rfl)))) (by rfl)))) (fun _ _ _ _ _ => (pv 13))) pa_nil)) rfl)))))))))))
      (pss_one (ps_if (pt_not (pt_val (pe_call (ok_law_looks_right T) (hr.mono (by decide)) rfl T.g_law_looks_right T.F_law_looks_right.kp T.d_law_looks_right .nil pass0 (pa_cons (pv 5) (pa_cons (pv 3) pa_nil)))))
      (pss_one (ps_ret pe_bl))
      pss_nil))))))
      (pss_one (ps_ret pe_bl)))))))))), ?_⟩
    refine ⟨_, rfl, s, ns, rfl, hS, by omega, fun p l H1 hp hl s1 P1 => ?_⟩
    -- width
    refine ⟨_, rfl, p, l, 3, rfl, P1, by decide, by decide, fun wv H2 w0 w1 P2 o2 => ⟨_, _, rfl, rfl, ?_⟩⟩
    obtain ⟨w, ew⟩ : ∃ n : Nat, 1 + wv = (n : Int) := ⟨(1 + wv).toNat, by omega⟩
    dsimp only
    rw [ew]
    have w1' : 1 ≤ w := by omega
    have w3 : w ≤ 3 := by omega
    refine ⟨fun σ H' => ∃ U, σ = [some (.ref s), some (.ref p), some (.int (w : Int)), some (.ref U), none, none, none, none, none, none, none, none, none, none] ∧ H2 U = none ∧ H' = upd H2 U (.dK []), ?_, ?_⟩
    · exact fun U nU => ⟨U, rfl, nU, rfl⟩
    rintro σ H3' ⟨U, rfl, nU, rfl⟩
    have P3 := P2.new (o := .dK []) nU
    have b3 : But p H1 (upd H2 U (.dK [])) := o2.but.new nU
    have dU3 : upd H2 U (.dK []) U = some (.dK (cntK (fun _ => 0) [])) := upd_same
    have oU := P2.off nU
    have nU1 : H1 U = none := but_none o2.but oU.1.symm nU
    generalize upd H2 U (.dK []) = H3 at P3 b3 dU3 ⊢
    clear w0 w1 ew o2 P1 P2 nU
    refine ⟨_, rfl, p, l, 4, rfl, P3, by decide, by decide, fun cv H4 c0 c1 P4 o4 => ⟨_, _, rfl, rfl, ?_⟩⟩
    have b4 := b3.trans o4.but
    have dU4 := o4.but _ _ dU3 oU.1.symm
    have t4 : (1 + cv).toNat ≤ 4 := by omega
    refine ⟨_, rfl, by omega, by omega, ?_⟩
    generalize (1 + cv).toNat = turns at t4 ⊢
    clear c0 c1 P3 b3 dU3 o4 H3 H2
    refine for_range (lo := 0) (n := turns) (fun i σ H' => ∃ (v4 : Option V) (us : List Int), σ = [some (.ref s), some (.ref p), some (.int (w : Int)), some (.ref U), v4, none, none, none, none, none, none, none, none, none] ∧ Pot H' p l ∧ But p H1 H' ∧ H' U = some (.dK (cntK (fun _ => 0) us)) ∧ us.Nodup ∧ (∀ x ∈ us, 0 ≤ x ∧ x < 8) ∧ us.length ≤ i) ⟨none, [], rfl, P4, b4, dU4, List.nodup_nil, fun _ m => (nomatch m), Nat.le_refl _⟩ ?_ ?_
    · clear P4 b4 dU4
      rintro i σ H5 hi ⟨v4, us, rfl, P5, b5, dU5, nd5, r5, l5⟩
      refine ⟨_, rfl, _, rfl, p, l, 8, rfl, P5, by decide, by decide, fun v H6 v0 v1 P6 o6 => ⟨U, _, rfl, DPut.k (k := Sum.inl v) (o6.but _ _ dU5 oU.1.symm) (small _ (by unfold cntK; rw [List.length_map]; omega)), ?_⟩⟩
      have P7 : Pot (upd H6 U (.dK (putK (cntK (fun _ => 0) us) (Sum.inl v) (.int 0)))) p l := P6.only Only.upd oU.1 oU.2
      have b7 : But p H1 (upd H6 U (.dK (putK (cntK (fun _ => 0) us) (Sum.inl v) (.int 0)))) := fun x o e n => by
        rw [upd_ne (ne_of_none e nU1)]
        exact o6.but _ _ (b5 x o e n) n
      by_cases c : v ∈ us
      · refine ⟨_, us, rfl, P7, b7, ?_, nd5, r5, by omega⟩
        rw [upd_same, show (V.int 0 : V) = .int ((0 : Nat) : Int) from rfl, put_cnt c]
        congr 2
        exact cnt_congr fun d _ => by split <;> rfl
      · refine ⟨_, us ++ [v], rfl, P7, b7, ?_, ?_, fun x mx => ?_, by rw [List.length_append, List.length_singleton]; omega⟩
        · rw [upd_same, show (V.int 0 : V) = .int ((0 : Nat) : Int) from rfl, put_cntN c]
          congr 2
          exact cnt_congr fun d _ => by split <;> rfl
        · rw [List.nodup_append]
          exact ⟨nd5, by simp, fun x mx y my => by rw [List.mem_singleton.mp my]; exact fun z => c (by rw [← z]; exact mx)⟩
        · rcases List.mem_append.mp mx with mx | mx
          · exact r5 x mx
          · rw [List.mem_singleton.mp mx]
            exact ⟨v0, v1⟩
    clear P4 b4 dU4 H4
    rintro σ H5 ⟨v4, us, rfl, P5, b5, dU5, nd5, r5, l5⟩
    have lu : us.length ≤ 8 := by omega
    -- store
    refine ⟨fun σ H' => ∃ (S : Addr) (m : SM), σ = [some (.ref s), some (.ref p), some (.int (w : Int)), some (.ref U), v4, some (.ref S), none, none, none, none, none, none, none, none] ∧ Stor a H' S m ∧ m.data = 1 ∧ m.par = w - 1 ∧ m.rows = 64 ∧ m.made = 0 ∧ m.ep = 1 ∧ us.Perm m.ms ∧ m.bl = [] ∧ Same H5 H' ∧ (∀ b, StR S m b → H5 b = none), ?_, ?_⟩
    · refine ⟨_, rfl, _, _, rfl, rfl, _, rfl, U, _, us, rfl, dU5, cnt_keys _ _, by omega, fun ML ms nML perm asc => ⟨rfl, rfl, fun S dx nS ndx nSd => ?_⟩⟩
      have msn : ms.Nodup := perm.nodup_iff.mpr nd5
      have mst : ms.Pairwise (· < ·) := (asc.and msn).imp fun h => by omega
      have dML : upd H5 ML (.lst (ms.map V.int)) ML = some (.lst (ms.map V.int)) := upd_same
      have s6 := Same.new (o := .lst (ms.map V.int)) nML
      generalize upd H5 ML (.lst (ms.map V.int)) = H6 at nS ndx dML s6 ⊢
      refine ⟨S, dx, ML, 1, w - 1, 64, 1, ms, by rw [show ((w - 1 : Nat) : Int) = (w : Int) - 1 by omega]; rfl, upd_same, by rw [upd_ne (ne_of_none dML nS), upd_ne (ne_of_none dML ndx)]; exact dML, mst, fun x mx => r5 x (perm.mem_iff.mp mx), by rw [perm.length_eq]; omega, by decide, by decide, fun m H9 st q1 q2 q3 q4 q5 q6 q7 fr9 sr9 => ⟨rfl, ?_⟩⟩
      refine ⟨S, m, rfl, st, q1, q2, q3, q4, q5, by rw [q6]; exact perm.symm, q7, s6.trans fun b o e => fr9 b o (by rw [upd_ne (ne_of_none e nS), upd_ne (ne_of_none e ndx)]; exact e) (ne_of_none e nS), fun b r => same_none s6 ?_⟩
      rcases sr9 b r with z | z
      · rw [z]; exact nS
      · by_cases c : b = S
        · rw [c, upd_same] at z; cases z
        · rw [upd_ne c] at z
          by_cases c2 : b = dx
          · rw [c2, upd_same] at z; cases z
          · rw [upd_ne c2] at z
            exact z
    rintro σ H6 ⟨S, m, rfl, st6, q1, q2, q3, q4, q5, q6, q7, s6, sr6⟩
    -- images
    have P6 := P5.same s6
    have b6 := b5.trans s6.but
    have dU6 := s6 _ _ dU5
    refine ⟨_, rfl, S, m.dx, _, rfl, st6.hS, by kernel_rfl, 8, rfl, by decide, by decide, fun I nI => ?_⟩
    refine lc_it walk_range (n := 8) (fun i H' => ∃ ims : List (Option Addr), Same H6 H' ∧ H' I = some (.lst (ims.map refI)) ∧ ims.length = i) ⟨[], Same.new nI, upd_same, rfl⟩ (fun _ _ _ _ => True.intro) ?_ ?_
    · rintro i y H2 H3 hi ⟨ims, s7, dI7, lI⟩ ⟨rfl, rfl⟩
      refine ⟨rfl, by show 1 ≤ sizeLine; decide, fun q1 n1 => ?_⟩
      refine ⟨q1, 64, _, rfl, rfl, upd_same, by decide, by decide, by show 1 * 64 ≤ sizeLine; decide, fun A nA => ?_⟩
      have sA := (Same.new (o := .lst [V.non]) n1).trans (Same.new (o := .lst (List.replicate (Int.toNat 64) [V.non]).flatten) nA)
      exact ⟨_, sA _ _ dI7, small _ (by rw [List.length_map]; omega), ims ++ [some A], same_put (s7.trans sA) nI, by rw [upd_same, List.map_append]; rfl, by rw [List.length_append, lI]; rfl⟩
    rintro H7 ⟨ims, s7, dI7, lI⟩
    have oI := P6.off nI
    have P7 := P6.same s7
    have b7 := b6.trans s7.but
    refine ⟨S, I, m, rfl, st6.same s7, fun H8 st8 fr8 => ?_⟩
    have nI5 : H5 I = none := same_none s6 nI
    have off : ∀ x o, H5 x = some o → ¬ StR S m x := fun x o e r => by rw [sr6 x r] at e; cases e
    obtain ⟨_, _, _, hp5⟩ := P5.list
    obtain ⟨_, _, _, _, z5, hl5, y5⟩ := id P5
    have Sp : ∀ x o, H5 x = some o → x ≠ S := fun x o e z => off x o e (by rw [z]; exact .s)
    have SI : I ≠ S := fun z => st6.fresh nI (by rw [z]; exact .s)
    have P8 : Pot H8 p l := by
      obtain ⟨ns', i', acc, seed, h1, h2, h3⟩ := P7
      exact ⟨ns', i', acc, seed, fr8 _ _ h1 (Sp _ _ hp5), fr8 _ _ h2 (Sp _ _ hl5), h3⟩
    have hs8 : SqL K H8 s (ns.map V.int) := seq_keep hS fun o e => by
      have e1 := s1 _ _ e
      have n1 := ne_of_none e hp
      exact fr8 _ _ (b7 _ _ e1 n1) (Sp _ _ (b5 _ _ e1 n1))
    obtain ⟨m1, hm1⟩ : ∃ m1 : SM, m1 = { m with I := I } := ⟨_, rfl⟩
    rw [← hm1] at st8
    have e1 : m1.data = 1 ∧ m1.par = w - 1 ∧ m1.rows = 64 ∧ m1.made = 0 ∧ m1.ep = 1 ∧ us.Perm m1.ms ∧ m1.bl = [] ∧ m1.I = I := by rw [hm1]; exact ⟨q1, q2, q3, q4, q5, q6, q7, rfl⟩
    have sr1 : ∀ b, StR S m1 b → StR S m b := fun b r => by rw [hm1] at r; exact str_I r
    have dI8 := fr8 _ _ dI7 SI
    have dU8 := fr8 _ _ (s7 _ _ dU6) (Sp _ _ dU5)
    refine ⟨fun σ H' => ∃ BK, σ = [some (.ref s), some (.ref p), some (.int (w : Int)), some (.ref U), v4, some (.ref S), some (.ref BK), none, none, none, none, none, none, none] ∧ R30 a H' S U BK p l m1 (cntK (usedM m1) us) [] ims ∧ Same H8 H', ?_, ?_⟩
    · refine ⟨Nat.zero_le _, fun BK nB => ⟨BK, rfl, ?_, Same.new nB⟩⟩
      have s9 := Same.new (o := .lst []) nB
      have oB := P8.off nB
      refine ⟨st8.same s9, P8.same s9, by rw [e1.2.2.2.2.2.2.2]; exact s9 _ _ dI8, ?_, upd_same, fun x hx => ?_, ⟨by rw [e1.2.2.2.2.2.2.2]; exact oI.1.symm, oB.1.symm⟩, ⟨by rw [e1.2.2.2.2.2.2.2]; exact ne_of_none dI8 nB, oB.2⟩⟩
      · rw [s9 _ _ dU8]
        congr 2
        refine cnt_congr fun d _ => ?_
        rw [st8.used_plc, e1.2.2.2.2.2.2.1]
        rfl
      · have hx' := sr1 x hx
        obtain ⟨o, ho⟩ := st8.there hx
        rw [e1.2.2.2.2.2.2.2]
        exact ⟨fun z => off _ _ hp5 (by rw [← z]; exact hx'), fun z => off _ _ hl5 (by rw [← z]; exact hx'), fun z => st6.fresh nI (by rw [← z]; exact hx'), fun z => off _ _ dU5 (by rw [← z]; exact hx'), ne_of_none ho nB⟩
    rintro σ H9 ⟨BK, rfl, R9, s9⟩
    have hs9 := s9.seq hs8
    have M9 : M30 m1 us w I 0 := ⟨e1.1, e1.2.1, e1.2.2.1, e1.2.2.2.2.1, e1.2.2.2.2.2.2.2, by rw [e1.2.2.2.1]; exact Nat.le_refl _, by rw [e1.2.2.2.2.2.2.1]; exact Nat.le_refl _, fun b mb => (by rw [e1.2.2.2.2.2.2.1] at mb; cases mb), e1.2.2.2.2.2.1⟩
    have K9 : m1.bl = [] := e1.2.2.2.2.2.2.1
    clear z5 y5 s9 sr1 e1 hm1 st8 q1 q2 q3 q4 q5 q6 q7 dI8 dU8 P8 hs8 fr8 SI Sp hp5 hl5 off nI5 b7 P7 oI dI7 s7 nI b6 P6 dU6 s6 st6 sr6 m H8 H7 H6 dU5 b5 P5 hS nd5 r5 oU nU1 H5
    refine ⟨_, rfl, s, _, rfl, .inl hs9, _, _, rfl, rfl, ⟨by decide, by decide⟩, _, _, rfl, _, _, rfl, rfl, _, rfl, by rw [List.length_map]; split <;> omega, by rw [List.length_map]; split <;> omega, ?_⟩
    rw [List.length_map]
    have t35 : (4 + (if (32 : Int) < ((ns.length : Nat) : Int) / 2 then 32 else ((ns.length : Nat) : Int) / 2)).toNat ≤ 35 := by split <;> omega
    generalize (4 + (if (32 : Int) < ((ns.length : Nat) : Int) / 2 then 32 else ((ns.length : Nat) : Int) / 2)).toNat = rounds at t35 ⊢
    refine for_range (lo := 0) (n := rounds) (fun i σ H' => ∃ (v4 v7 v8 v9 v10 v11 v12 : Option V) (U BK : Addr) (m : SM) (us : List Int), σ = [some (.ref s), some (.ref p), some (.int (w : Int)), some (.ref U), v4, some (.ref S), some (.ref BK), v7, v8, v9, v10, v11, v12, none] ∧ M30 m us w I i ∧ R30 a H' S U BK p l m (cntK (usedM m) us) m.bl ims) ⟨v4, none, none, none, none, none, none, U, BK, m1, us, rfl, M9, by rw [K9]; exact R9⟩ ?_ ?_
    · clear R9 M9 K9 hs9 m1 H9 U BK v4 lu l5 us t4 turns
      rintro i σ H2 hi ⟨v4, v7, v8, v9, v10, v11, v12, U, BK, m, us, rfl, M, R⟩
      refine ⟨_, rfl, p, l, 4, rfl, R.P, by decide, by decide, fun kd H3 k0 k1 P3 o3 => ?_⟩
      have R3 := R.draw P3 o3.but
      refine ⟨_, rfl, p, l, 8, rfl, P3, by decide, by decide, fun d H4 d0 d1 P4 o4 => ?_⟩
      have R4 := R3.draw P4 o4.but
      clear R R3 P3 o3 P4 o4 H3 H2
      refine ⟨fun σ H' => ∃ (v9 v10 v11 v12 : Option V) (U BK : Addr) (m : SM) (us : List Int), σ = [some (.ref s), some (.ref p), some (.int (w : Int)), some (.ref U), some (.int (0 + (i : Int))), some (.ref S), some (.ref BK), some (.int kd), some (.int d), v9, v10, v11, v12, none] ∧ M30 m us w I (i + 1) ∧ R30 a H' S U BK p l m (cntK (usedM m) us) m.bl ims, ?_, ?_⟩
      · have ms8 := R4.st.ms8
        have lus : us.length ≤ 8 := by rw [M.us.length_eq]; exact ms8
        have lcn : ∀ f : Int → Nat, (cntK f us).length ≤ 8 := fun f => by unfold cntK; rw [List.length_map]; exact lus
        have dim : d ∈ us ↔ d ∈ m.ms := M.us.mem_iff
        have g1 : ∀ {H : Hp} {f : Int → Nat}, H U = some (.dK (cntK f us)) → d ∈ us → DGet H U (.int d) (some (.int (f d : Nat))) := fun e mu => by
          have := DGet.k (k := Sum.inl d) e
          rw [val_cnt mu] at this
          exact this
        have g0 : ∀ {H : Hp} {f : Int → Nat}, H U = some (.dK (cntK f us)) → d ∉ us → DGet H U (.int d) none := fun e mu => by
          have := DGet.k (k := Sum.inl d) e
          rw [val_cntN mu] at this
          exact this
        refine ⟨_, rfl, rfl, _, rfl, ite2 (fun _ => ?_) (fun _ => ?_)⟩
        · -- add
          refine ⟨_, rfl, _, rfl, S, m, d, rfl, R4.st, d0, d1, ms8, by rw [M.rows]; decide, by rw [M.rows]; decide, fun md H5 s5 => ?_, fun md m' H5 st5 cm eb pm fr5 up5 => ?_⟩
          · have R5 := R4.same s5
            have mu := dim.mpr md
            have g := g1 R5.us mu
            refine ⟨_, rfl, _, rfl, U, _, rfl, g, _, rfl, iteT ⟨_, rfl, rfl, _, rfl, iteF ⟨_, rfl, _, rfl, U, _, rfl, g, _, rfl, iteF (iteF ⟨_, rfl, U, rfl, .inl ⟨_, .inl R5.us⟩, _, rfl, _, g, _, rfl, _, rfl, U, _, rfl, DPut.k (k := Sum.inl d) R5.us (small _ (by have := lcn (usedM m); omega)), _, _, _, _, U, BK, m, us, rfl, M.le, ?_⟩)⟩⟩⟩
            show R30 a (upd H5 U (.dK (putK (cntK (usedM m) us) (Sum.inl d) (.int (usedM m d : Nat))))) S U BK p l m _ _ _
            have e : putK (cntK (usedM m) us) (Sum.inl d) (.int (usedM m d : Nat)) = cntK (usedM m) us := by
              rw [put_cnt mu]
              exact cnt_congr fun x _ => by
                by_cases c : x = d
                · rw [if_pos c, c]
                · rw [if_neg c]
            rw [e]
            exact R5.count _
          · have R5 := R4.store st5 cm.I fr5 up5
            have mu : d ∉ us := fun z => md (dim.mp z)
            have g := g0 R5.us mu
            refine ⟨_, rfl, _, rfl, U, _, rfl, g, _, rfl, iteF ⟨_, rfl, _, rfl, U, _, rfl, g, _, rfl, iteT ⟨_, rfl, _, _, rfl, rfl, _, rfl, iteF ⟨_, rfl, U, rfl, .inl ⟨_, .inl R5.us⟩, _, rfl, _, g, _, rfl, _, rfl, U, _, rfl, DPut.k (k := Sum.inl d) R5.us (small _ (by have := lcn (usedM m); omega)), _, _, _, _, U, BK, m', us ++ [d], rfl, M.cm cm eb ?_, ?_⟩⟩⟩⟩
            · exact (M.us.append_right [d]).trans pm.symm
            · show R30 a (upd H5 U (.dK (putK (cntK (usedM m) us) (Sum.inl d) (.int ((0 : Nat) : Int))))) S U BK p l m' _ _ _
              have e : putK (cntK (usedM m) us) (Sum.inl d) (.int ((0 : Nat) : Int)) = cntK (usedM m') (us ++ [d]) := by
                rw [put_cntN mu]
                refine cnt_congr fun x _ => ?_
                rw [used_same R4.st st5 (by rw [eb]) x]
                by_cases c : x = d
                · rw [if_pos c, c, R4.st.used_none md]
                · rw [if_neg c]
              rw [e, eb]
              exact R5.count _
        refine ⟨_, rfl, rfl, _, rfl, ite2 (fun _ => ?_) (fun _ => ?_)⟩
        · -- drop
          refine ⟨_, rfl, _, rfl, S, m, d, rfl, R4.st, d0, d1, ms8, by rw [M.rows]; decide, by rw [M.rows]; decide, fun c H5 s5 => ?_, fun md u0 m' H5 st5 cm eb em fr5 up5 => ?_⟩
          · have R5 := R4.same s5
            by_cases mu : d ∈ us
            · have u1 : usedM m d ≠ 0 := c.resolve_left fun z => z (dim.mp mu)
              refine ⟨_, rfl, _, rfl, U, _, rfl, g1 R5.us mu, _, rfl, iteT ⟨_, rfl, _, rfl, U, _, rfl, g1 R5.us mu, rfl, _, rfl, ite2 (fun z => ?_) fun _ => ⟨_, rfl, rfl, _, rfl, iteF ⟨_, _, _, _, U, BK, m, us, rfl, M.le, R5⟩⟩⟩⟩
              have z := V.int.inj (of_decide_eq_true z)
              exact absurd z (by omega)
            · exact ⟨_, rfl, _, rfl, U, _, rfl, g0 R5.us mu, _, rfl, iteF (iteF ⟨_, rfl, rfl, _, rfl, iteF ⟨_, _, _, _, U, BK, m, us, rfl, M.le, R5⟩⟩)⟩
          · have R5 := R4.store st5 cm.I fr5 up5
            have mu := dim.mpr md
            refine ⟨_, rfl, _, rfl, U, _, rfl, g1 R5.us mu, _, rfl, iteT ⟨_, rfl, _, rfl, U, _, rfl, g1 R5.us mu, rfl, _, rfl, ?_⟩⟩
            rw [u0]
            refine iteT ⟨_, rfl, _, _, rfl, rfl, _, rfl, iteF ?_⟩
            refine ⟨_, rfl, U, _, us, rfl, R5.us, cnt_keys _ _, by omega, fun A ks nA perm asc => ?_⟩
            have sA := Same.new (o := .lst (ks.map V.int)) nA
            have dA : upd H5 A (.lst (ks.map V.int)) A = some (.lst (ks.map V.int)) := upd_same
            generalize upd H5 A (.lst (ks.map V.int)) = H6 at sA dA ⊢
            have R6 := R5.same sA
            have lk : ks.length ≤ 8 := by rw [perm.length_eq]; exact lus
            refine ⟨A, rfl, ⟨_, SqL.of dA⟩, fun D nD => lc_list (K := K) (a := A) (xs := ks.map V.int) (fun j H' => Same H6 H' ∧ H' D = some (.lst (((ks.take j).filter fun x => decide (x ≠ d)).map V.int))) ⟨Same.new nD, upd_same⟩ (fun j H' _ q => SqL.of (q.1 _ _ dA)) ?_ ?_⟩
            · rintro j y H7 hy ⟨s7, dD⟩
              obtain ⟨x, hx, rfl⟩ := int_item hy
              have jl := item_lt hx
              refine ⟨rfl, _, rfl, _, rfl, rfl, _, rfl, ite2 (fun c => ?_) (fun c => ?_)⟩
              · have c : x ≠ d := fun z => by rw [z, decide_eq_true rfl] at c; cases c
                refine ⟨_, rfl, _, dD, small _ (by rw [List.length_map]; have := List.length_filter_le (fun x => decide (x ≠ d)) (ks.take j); rw [List.length_take] at this; omega), same_put s7 nD, ?_⟩
                rw [upd_same, take_snoc hx, List.filter_append, List.map_append, List.filter_cons, if_pos (decide_eq_true c)]
                rfl
              · have c : x = d := Classical.byContradiction fun z => c (by rw [decide_eq_false fun y => z (V.int.inj y)]; rfl)
                refine ⟨s7, ?_⟩
                rw [dD, take_snoc hx, List.filter_append, List.filter_cons, if_neg (by rw [decide_eq_false (fun z => z c)]; exact Bool.false_ne_true), List.filter_nil, List.append_nil]
            rintro H7 ⟨s7, dD⟩
            rw [List.length_map, List.take_length] at dD
            obtain ⟨ds, hds⟩ : ∃ ds, ds = ks.filter fun x => decide (x ≠ d) := ⟨_, rfl⟩
            rw [← hds] at dD
            have R7 := R6.same s7
            have lds : ds.length ≤ 8 := by
              rw [hds]
              exact Nat.le_trans (List.length_filter_le _ _) lk
            have mds : ∀ x ∈ ds, x ∈ us := fun x mx => by
              rw [hds] at mx
              exact perm.mem_iff.mp (List.mem_filter.mp mx).1
            have ndu : us.Nodup := M.us.nodup_iff.mpr (R4.st.nd.imp fun h => Int.ne_of_lt h)
            have ndd : ds.Nodup := by
              rw [hds]
              exact (perm.nodup_iff.mpr ndu).sublist List.filter_sublist
            have pds : ds.Perm m'.ms := by
              rw [hds, em]
              exact (perm.trans M.us).filter _
            clear hds sA dA s7
            refine ⟨_, rfl, D, rfl, ⟨_, SqL.of dD⟩, fun F nF => lc_list (K := K) (a := D) (xs := ds.map V.int) (fun j H' => Same H7 H' ∧ ∃ L : List (Addr × Int), H' F = some (.lst (L.map fun e => V.ref e.1)) ∧ (∀ e ∈ L, H' e.1 = some (.tup [.int e.2, .int (usedM m e.2 : Nat)])) ∧ L.map (·.2) = ds.take j) ⟨Same.new nF, [], upd_same, fun _ m => (nomatch m), rfl⟩ (fun j H' _ q => SqL.of (q.1 _ _ dD)) ?_ ?_⟩
            · rintro j y H8 hy ⟨s8, L, dF, hL, eL⟩
              obtain ⟨x, hx, rfl⟩ := int_item hy
              have jl := item_lt hx
              have lL : L.length ≤ 8 := by
                have := congrArg List.length eL
                rw [List.length_map, List.length_take] at this
                omega
              have dg : DGet H8 U (.int x) (some (.int (usedM m x : Nat))) := by
                have := DGet.k (k := Sum.inl x) (s8 _ _ R7.us)
                rw [val_cnt (mds x (List.mem_of_getElem? hx))] at this
                exact this
              refine ⟨rfl, _, rfl, _, rfl, _, rfl, U, _, rfl, dg, by show 2 ≤ sizeLine; decide, fun t nt => ?_⟩
              have sT := Same.new (o := .tup [V.int x, V.int (usedM m x : Nat)]) nt
              have dT : upd H8 t (.tup [V.int x, V.int (usedM m x : Nat)]) t = some (.tup [.int x, .int (usedM m x : Nat)]) := upd_same
              generalize upd H8 t (.tup [V.int x, V.int (usedM m x : Nat)]) = H9 at sT dT ⊢
              have tF : t ≠ F := (ne_of_none dF nt).symm
              refine ⟨_, sT _ _ dF, small _ (by rw [List.length_map]; omega), same_put (s8.trans sT) nF, L ++ [(t, x)], by rw [upd_same, List.map_append]; rfl, fun e me => ?_, by rw [List.map_append, eL, take_snoc hx]; rfl⟩
              rcases List.mem_append.mp me with me | me
              · rw [upd_ne (ne_of (hL e me) dF (by intro z; cases z))]
                exact sT _ _ (hL e me)
              · rw [List.mem_singleton.mp me, upd_ne tF]
                exact dT
            rintro H8 ⟨s8, L, dF, hL, eL⟩
            rw [List.length_map, List.take_length] at eL
            have R8 := R7.same s8
            refine ⟨F, L.map (·.1), cntK (usedM m) ds, rfl, SqL.of (by rw [List.map_map]; exact dF), by rw [← eL]; exact paired_cnt hL, fun U' nU' => ?_⟩
            have em' : mergeK [] (cntK (usedM m) ds) = cntK (usedM m') ds := by
              have := merge_cnt (f := usedM m) (xs := []) (ys := ds) ndd
              rw [List.nil_append] at this
              refine this.trans (cnt_congr fun x _ => ?_)
              exact (used_same R4.st st5 (by rw [eb]) x).symm
            rw [em']
            have s9 := Same.new (o := .dK (cntK (usedM m') ds)) nU'
            refine ⟨_, _, _, _, U', BK, m', ds, rfl, M.cm cm eb pds, ?_⟩
            rw [eb]
            exact (R8.same s9).table (fun x hx z => R8.off nU' (by rw [← z]; exact .st _ hx)) upd_same
        refine ⟨_, rfl, rfl, _, rfl, ite2 (fun _ => ?_) (fun _ => ?_)⟩
        · -- put
          have wd : m.data + m.par = w := by rw [M.data, M.par]; omega
          refine ⟨_, rfl, S, m, ims, rfl, R4.st, R4.im, by omega, by rw [M.rows]; decide, ms8, by rw [M.data]; exact Nat.le_refl _, by omega, fun z H5 s5 => ?_, fun z => ⟨by rw [M.rows]; have := M.bl; omega, by have := M.bl; omega, fun b H5 st5 mb es ew eL fr5 up5 => ?_⟩⟩
          · have R5 := R4.same s5
            refine ⟨_, rfl, U, _, rfl, R5.us, _, rfl, _, _, rfl, rfl, _, rfl, ite2 (fun _ => ?_) fun c => ?_⟩
            · exact ⟨_, rfl, _, _, rfl, rfl, _, rfl, iteF ⟨_, _, _, _, U, BK, m, us, rfl, M.le, R5⟩⟩
            · refine absurd (decide_eq_true ?_) c
              unfold cntK
              rw [List.length_map, M.us.length_eq]
              omega
          · have R5 := R4.store st5 rfl fr5 up5
            refine ⟨_, rfl, U, _, rfl, R5.us, _, rfl, _, _, rfl, rfl, _, rfl, ite2 (fun c => ?_) fun _ => ?_⟩
            · have c := of_decide_eq_true c
              unfold cntK at c
              rw [List.length_map, M.us.length_eq] at c
              omega
            have hb : b ∈ (m.put b).bl := List.mem_append_right _ (by simp)
            have bk5 := R5.st.blk b hb
            have inU : ∀ q ∈ b.L, q.2.1 ∈ us := fun q mq => M.us.mem_iff.mpr (R5.st.row b hb q mq).1
            refine ⟨_, rfl, _, _, _, _, true, rfl, .ty "tuple", .base (.tup bk5.t), kit_ty (by decide +kernel), true, rfl, iteF ?_⟩
            refine ⟨_, rfl, b.T, _, 3, .ref b.PT, rfl, rfl, SqT.of bk5.t, at_of (j := 3) rfl rfl, b.PT, rfl, ⟨_, SqT.of bk5.pt⟩, fun D nD => lc_tup (K := K) (a := b.PT) (xs := b.L.map fun q => V.ref q.1) (fun j H' => Same H5 H' ∧ H' D = some (.lst ((List.replicate j true).map V.bl))) ⟨Same.new nD, upd_same⟩ (fun j H' _ q => SqT.of (q.1 _ _ bk5.pt)) ?_ ?_⟩
            · rintro j y H6 hy ⟨s6, dD⟩
              obtain ⟨q, hq, rfl⟩ := plc_item hy
              have jl := item_lt hq
              have mq := List.mem_of_getElem? hq
              have dg : DGet H6 U (.int q.2.1) (some (.int (usedM m q.2.1 : Nat))) := by
                have := DGet.k (k := Sum.inl q.2.1) (s6 _ _ R5.us)
                rw [val_cnt (inU q mq)] at this
                exact this
              refine ⟨rfl, _, rfl, q.1, _, 0, .int q.2.1, rfl, rfl, SqT.of (s6 _ _ (bk5.q q mq)), at_of (j := 0) rfl rfl, _, rfl, U, _, rfl, dg, _, dD, small _ (by rw [List.length_map, List.length_replicate]; omega), same_put s6 nD, ?_⟩
              rw [upd_same, List.replicate_succ', List.map_append]
              rfl
            rintro H6 ⟨s6, dD⟩
            refine ⟨D, _, rfl, SqL.of dD, true, by rw [all_rep], iteF ?_⟩
            have R6 := R5.same s6
            have lbl := M.bl
            refine ⟨_, rfl, .inl ⟨rfl, _, SqL.of R6.bk⟩, _, rfl, BK, _, _, rfl, rfl, R6.bk, small _ (by rw [List.length_map]; omega), ?_⟩
            have R7 := R6.more b
            generalize upd H6 BK (.lst ((m.bl.map fun e => V.ref e.T) ++ [.ref b.T])) = H7 at R7 ⊢
            have bk7 := R7.st.blk b hb
            refine ⟨_, rfl, b.T, _, _, _, rfl, rfl, SqT.of bk7.t, at_of (j := 3) rfl rfl, b.PT, rfl, ⟨_, SqT.of bk7.pt⟩, for_tup (K := K) (a := b.PT) (xs := b.L.map fun q => V.ref q.1) (fun j σ H' => ∃ v11 : Option V, σ = [some (.ref s), some (.ref p), some (.int (w : Int)), some (.ref U), some (.int (0 + (i : Int))), some (.ref S), some (.ref BK), some (.int kd), some (.int d), some (.ref b.T), v10, v11, v12, none] ∧ R30 a H' S U BK p l (m.put b) (cntK (fun x => usedM m x + plcD ((b.L.take j).map (·.2)) x) us) (m.bl ++ [b]) ims) ⟨v11, rfl, R7⟩ (fun j σ H' _ ⟨_, _, r⟩ => SqT.of (r.st.blk b hb).pt) ?_ ?_⟩
            · rintro j y σ H8 hy ⟨v, rfl, R8⟩
              obtain ⟨q, hq, rfl⟩ := plc_item hy
              have mq := List.mem_of_getElem? hq
              have dq := (R8.st.blk b hb).q q mq
              have mu := inU q mq
              have dg : DGet H8 U (.int q.2.1) (some (.int ((usedM m q.2.1 + plcD ((b.L.take j).map (·.2)) q.2.1 : Nat) : Int))) := by
                have := DGet.k (k := Sum.inl q.2.1) R8.us
                rw [val_cnt mu] at this
                exact this
              refine ⟨_, rfl, _, rfl, q.1, _, 0, .int q.2.1, rfl, rfl, SqT.of dq, at_of (j := 0) rfl rfl, U, _, rfl, dg, _, _, rfl, rfl, _, rfl, _, rfl, q.1, _, 0, .int q.2.1, rfl, rfl, SqT.of dq, at_of (j := 0) rfl rfl, U, _, rfl, DPut.k (k := Sum.inl q.2.1) R8.us (small _ (by have := lcn (fun x => usedM m x + plcD ((b.L.take j).map (·.2)) x); omega)), _, rfl, ?_⟩
              have R9 := R8.count (cntK (fun x => usedM m x + plcD ((b.L.take (j + 1)).map (·.2)) x) us)
              have e : putK (cntK (fun x => usedM m x + plcD ((b.L.take j).map (·.2)) x) us) (Sum.inl q.2.1) (.int (((usedM m q.2.1 + plcD ((b.L.take j).map (·.2)) q.2.1 : Nat) : Int) + 1)) = cntK (fun x => usedM m x + plcD ((b.L.take (j + 1)).map (·.2)) x) us := by
                rw [show (((usedM m q.2.1 + plcD ((b.L.take j).map (·.2)) q.2.1 : Nat) : Int) + 1) = ((usedM m q.2.1 + plcD ((b.L.take j).map (·.2)) q.2.1 + 1 : Nat) : Int) from rfl, put_cnt mu]
                refine cnt_congr fun x _ => ?_
                rw [take_snoc hq, List.map_append, List.map_cons, List.map_nil, plcD_snoc]
                by_cases c : x = q.2.1
                · rw [if_pos c, if_pos c.symm, c]
                  rfl
                · rw [if_neg c, if_neg fun z => c z.symm]
                  rfl
              rw [e]
              exact R9
            rintro σ H8 ⟨v, rfl, R8⟩
            rw [List.length_map, List.take_length] at R8
            refine ⟨_, _, _, _, U, BK, m.put b, us, rfl, M.put ew (by rw [eL, wd]), ?_⟩
            have e : cntK (fun x => usedM m x + plcD (b.L.map (·.2)) x) us = cntK (usedM (m.put b)) us := cnt_congr fun x _ => by
              rw [R4.st.used_plc, R8.st.used_plc, show (m.put b).bl = m.bl ++ [b] from rfl, plcs_snoc, plcD_app]
            rw [e] at R8
            exact R8
        · -- commit
          have lbl := M.bl
          refine ⟨fun σ H' => ∃ (BK' : Addr) (bs : List Blk), σ = [some (.ref s), some (.ref p), some (.int (w : Int)), some (.ref U), some (.int (0 + (i : Int))), some (.ref S), some (.ref BK'), some (.int kd), some (.int d), v9, v10, v11, v12, none] ∧ R30 a H' S U BK' p l m (cntK (usedM m) us) bs ims ∧ bs.Sublist m.bl, ?_, ?_⟩
          · refine ⟨_, rfl, BK, rfl, ⟨_, SqL.of R4.bk⟩, fun D nD => lc_list (K := K) (a := BK) (xs := m.bl.map fun b => V.ref b.T) (fun j H' => ∃ bs : List Blk, R30 a H' S U BK p l m (cntK (usedM m) us) m.bl ims ∧ H' D = some (.lst (bs.map fun b => V.ref b.T)) ∧ bs.Sublist (m.bl.take j)) ⟨[], R4.same (Same.new nD), upd_same, List.nil_sublist _⟩ (fun j H' _ ⟨_, r, _⟩ => SqL.of r.bk) ?_ ?_⟩
            · rintro j y H5 hy ⟨bs, R5, dD, sub⟩
              obtain ⟨b, hb, rfl⟩ := blk_item hy
              have jl := item_lt hb
              have offD := R4.off nD
              have Dp : D ≠ p := fun z => offD (by rw [z]; exact .p)
              have lbs : bs.length ≤ j := by have := sub.length_le; rw [List.length_take] at this; omega
              refine ⟨rfl, _, rfl, p, l, 3, rfl, R5.P, by decide, by decide, fun v H6 v0 v1 P6 o6 => ⟨_, _, rfl, rfl, _, rfl, ite2 (fun _ => ?_) fun _ => ?_⟩⟩
              · have R6 := R5.draw P6 o6.but
                exact ⟨_, rfl, _, o6.but _ _ dD Dp, small _ (by rw [List.length_map]; omega), bs ++ [b], R6.upd offD, by rw [upd_same, List.map_append]; rfl, by rw [take_snoc hb]; exact sub.append (List.Sublist.refl _)⟩
              · exact ⟨bs, R5.draw P6 o6.but, o6.but _ _ dD Dp, sub.trans (by rw [take_snoc hb]; exact List.sublist_append_left _ _)⟩
            rintro H5 ⟨bs, R5, dD, sub⟩
            rw [List.length_map, List.take_length] at sub
            exact ⟨D, bs, rfl, R5.blocks (R4.off nD) dD, sub⟩
          rintro σ H5 ⟨BK', bs, rfl, R5, sub⟩
          have hbs : ∀ b ∈ bs, b ∈ m.bl := fun b mb => sub.subset mb
          have lbs := sub.length_le
          refine ⟨_, rfl, S, m.dx, _, rfl, R5.st.hS, by kernel_rfl, _, rfl, S, BK', m, bs, ims, rfl, R5.st, SqL.of R5.bk, hbs, by omega, by omega, by rw [M.rows]; decide, SqL.of R5.im, by omega, by rw [M.data]; exact Nat.le_refl _, by rw [M.ep]; decide, by have := M.made; omega, ms8, fun b mb _ => ⟨by rw [(M.ws b mb).1]; decide, by rw [M.data, (M.ws b mb).2]; exact w1'⟩, fun Rq m' H6 st6 cm ems ebl fr6 up6 nRq => ?_⟩
          have ebl' : m'.bl = bs.map clearB := by
            rw [ebl]
            congr 1
            exact filter_sub sub R5.st.un _ fun x _ => rfl
          have R6 := R5.store st6 cm.I fr6 up6
          have used' : ∀ x, (bs.filter fun b => decide (x ∈ b.L.map fun e => e.2.1)).length = usedM m' x := fun x => by
            rw [st6.used_plc, ebl', plcs_map clearB (fun _ => rfl)]
            exact (plcD_blocks x fun b mb => R5.st.asc b (hbs b mb)).symm
          have blk' : ∀ {H : Hp}, Stor a H S m' → ∀ b ∈ bs, BlkAt H m'.ep (clearB b) := fun h b mb => h.blk _ (by rw [ebl']; exact List.mem_map.mpr ⟨b, mb, rfl⟩)
          refine ⟨_, rfl, U, _, us, rfl, R6.us, cnt_keys _ _, by omega, fun A ks nA perm asc => ?_⟩
          have sA := Same.new (o := .lst (ks.map V.int)) nA
          have dA : upd H6 A (.lst (ks.map V.int)) A = some (.lst (ks.map V.int)) := upd_same
          have offA := R6.off nA
          generalize upd H6 A (.lst (ks.map V.int)) = H7 at sA dA ⊢
          have R7 := R6.same sA
          have eA : A ≠ U := fun z => offA (by rw [z]; exact .u)
          refine ⟨A, rfl, ⟨_, SqL.of dA⟩, for_list (K := K) (a := A) (xs := ks.map V.int) (fun j σ H' => ∃ v12 : Option V, σ = [some (.ref s), some (.ref p), some (.int (w : Int)), some (.ref U), some (.int (0 + (i : Int))), some (.ref S), some (.ref BK'), some (.int kd), some (.int d), v9, v10, v11, v12, none] ∧ R30 a H' S U BK' p l m' (cntK (fun x => if x ∈ ks.take j then usedM m' x else usedM m x) us) bs ims ∧ H' A = some (.lst (ks.map V.int))) ⟨v12, rfl, R7, dA⟩ (fun j σ H' _ ⟨_, _, _, q⟩ => SqL.of q) ?_ ?_⟩
          · rintro j y σ H8 hy ⟨v, rfl, R8, dA8⟩
            obtain ⟨x, hx, rfl⟩ := int_item hy
            have mu : x ∈ us := perm.mem_iff.mp (List.mem_of_getElem? hx)
            refine ⟨_, rfl, BK', rfl, ⟨_, SqL.of R8.bk⟩, fun D nD => lc_list (K := K) (a := BK') (xs := bs.map fun b => V.ref b.T) (fun t H' => Same H8 H' ∧ H' D = some (.lst (((bs.take t).filter fun b => decide (x ∈ b.L.map fun e => e.2.1)).map fun b => V.ref b.T))) ⟨Same.new nD, upd_same⟩ (fun t H' _ q => SqL.of (q.1 _ _ R8.bk)) ?_ ?_⟩
            · rintro t y H9 hy ⟨s9, dD⟩
              obtain ⟨b, hb, rfl⟩ := blk_item hy
              have tl := item_lt hb
              have bk9 := blk' (R8.st.same s9) b (List.mem_of_getElem? hb)
              have pt9 : H9 b.PT = some (.tup (b.L.map fun q => V.ref q.1)) := bk9.pt
              have q9 : ∀ e ∈ b.L, H9 e.1 = some (.tup [.int e.2.1, .int e.2.2]) := bk9.q
              have lL : b.L.length ≤ 8 := by have := R5.st.width (hbs b (List.mem_of_getElem? hb)); omega
              have lf : ((bs.take t).filter fun b => decide (x ∈ b.L.map fun e => e.2.1)).length ≤ t := Nat.le_trans (List.length_filter_le _ _) (by rw [List.length_take]; omega)
              refine ⟨rfl, _, rfl, _, rfl, b.T, _, 3, .ref b.PT, rfl, rfl, SqT.of bk9.t, at_of (j := 3) rfl rfl, b.PT, rfl, ⟨_, SqT.of pt9⟩, fun F nF => lc_tup (K := K) (a := b.PT) (xs := b.L.map fun q => V.ref q.1) (fun u H' => Same H9 H' ∧ H' F = some (.lst (((b.L.take u).map fun e => e.2.1).map V.int))) ⟨Same.new nF, upd_same⟩ (fun u H' _ q => SqT.of (q.1 _ _ pt9)) ?_ ?_⟩
              · rintro u y H10 hy ⟨s10, dF⟩
                obtain ⟨q, hq, rfl⟩ := plc_item hy
                have ul := item_lt hq
                refine ⟨rfl, _, rfl, q.1, _, 0, .int q.2.1, rfl, rfl, SqT.of (s10 _ _ (q9 q (List.mem_of_getElem? hq))), at_of (j := 0) rfl rfl, _, dF, small _ (by rw [List.length_map, List.length_map, List.length_take]; omega), same_put s10 nF, ?_⟩
                rw [upd_same, take_snoc hq, List.map_append, List.map_append]
                rfl
              rintro H10 ⟨s10, dF⟩
              rw [List.length_map, List.take_length] at dF
              have ndF := (s10 _ _ dD)
              refine ⟨F, _, rfl, .inl (SqL.of dF), rfl, flat_intsS _, _, rfl, ?_⟩
              rw [inV_intsS]
              refine ite2 (fun c => ?_) fun c => ?_
              · have c : decide (x ∈ b.L.map fun e => e.2.1) = true := c
                refine ⟨_, rfl, _, ndF, small _ (by rw [List.length_map]; omega), same_put (s9.trans s10) nD, ?_⟩
                rw [upd_same, take_snoc hb, List.filter_append, List.map_append, List.filter_cons, if_pos c]
                rfl
              · have c : ¬ decide (x ∈ b.L.map fun e => e.2.1) = true := c
                refine ⟨s9.trans s10, ?_⟩
                rw [ndF, take_snoc hb, List.filter_append, List.filter_cons, if_neg c, List.filter_nil, List.append_nil]
            rintro H9 ⟨s9, dD⟩
            rw [List.length_map, List.take_length] at dD
            have R9 := R8.same s9
            refine ⟨D, _, rfl, .inl (SqL.of dD), _, rfl, _, rfl, U, _, rfl, DPut.k (k := Sum.inl x) R9.us (small _ (by have := lcn (fun x => if x ∈ ks.take j then usedM m' x else usedM m x); omega)), _, rfl, ?_, by rw [upd_ne eA]; exact s9 _ _ dA8⟩
            have e : putK (cntK (fun x => if x ∈ ks.take j then usedM m' x else usedM m x) us) (Sum.inl x) (.int (((bs.filter fun b => decide (x ∈ b.L.map fun e => e.2.1)).map fun b => V.ref b.T).length : Nat)) = cntK (fun x => if x ∈ ks.take (j + 1) then usedM m' x else usedM m x) us := by
              rw [List.length_map, used' x, put_cnt mu]
              refine cnt_congr fun y _ => ?_
              rw [take_snoc hx]
              by_cases c : y = x
              · rw [if_pos c, if_pos (by rw [c]; simp), c]
              · rw [if_neg c]
                have : (y ∈ ks.take j ++ [x]) = (y ∈ ks.take j) := by
                  rw [List.mem_append, List.mem_singleton]
                  exact propext ⟨fun z => z.resolve_right c, .inl⟩
                simp only [this]
            rw [e]
            exact R9.count _
          rintro σ H8 ⟨v, rfl, R8, dA8⟩
          rw [List.length_map, List.take_length] at R8
          refine ⟨_, _, _, _, U, BK', m', us, rfl, ⟨by rw [cm.data, M.data], by rw [cm.par, M.par], by rw [cm.rows, M.rows], by rw [cm.ep, M.ep], by rw [cm.I, M.I], by rw [cm.made]; have := M.made; omega, by rw [ebl', List.length_map]; omega, fun b mb => ?_, by rw [ems]; exact M.us⟩, ?_⟩
          · rw [ebl'] at mb
            obtain ⟨c, mc, rfl⟩ := List.mem_map.mp mb
            exact M.ws c (hbs c mc)
          · have e : cntK (fun x => if x ∈ ks then usedM m' x else usedM m x) us = cntK (usedM m') us := cnt_congr fun x mx => if_pos (perm.mem_iff.mpr mx)
            rw [e] at R8
            refine ⟨R8.st, R8.P, R8.im, R8.us, ?_, R8.nS, R8.np, R8.nb⟩
            rw [ebl', List.map_map]
            exact R8.bk
      rintro σ H5 ⟨v9, v10, v11, v12, U, BK, m, us, rfl, M, R⟩
      refine ⟨_, rfl, _, rfl, S, U, m, us, rfl, R.st, R.us, M.us, R.st.ms8, M.rows, fun H6 s6 => ⟨true, rfl, iteF ⟨_, _, _, v9, v10, v11, v12, U, BK, m, us, rfl, M, R.same s6⟩⟩⟩
    rintro σ H10 _
    exact k H10
end
theorem all_mk {l : PySem.W.OpenLaw} {w : World} {K : PySem.W.Frag} {h : Heap} {mg : Str → Option Value} {fa : Addr} (X : K.In h) (G : h.Ns mainGlobals mg) (hfa : mg "law" = some (.ref fa))
    {f_is_present : Addr} {oc_is_present kV_is_present dc_is_present pm_is_present cd_is_present ct_is_present : Value} {od_is_present an_is_present : Option Addr} {sl_is_present : Array (Option Value)}
    {f_sector_at : Addr} {oc_sector_at kV_sector_at dc_sector_at pm_sector_at cd_sector_at ct_sector_at : Value} {od_sector_at an_sector_at : Option Addr} {sl_sector_at : Array (Option Value)}
    {f_inverse : Addr} {oc_inverse kV_inverse dc_inverse pm_inverse cd_inverse ct_inverse : Value} {od_inverse an_inverse : Option Addr} {sl_inverse : Array (Option Value)}
    {f_weight : Addr} {oc_weight kV_weight dc_weight pm_weight cd_weight ct_weight : Value} {od_weight an_weight : Option Addr} {sl_weight : Array (Option Value)}
    {f_weights : Addr} {oc_weights kV_weights dc_weights pm_weights cd_weights ct_weights : Value} {od_weights an_weights : Option Addr} {sl_weights : Array (Option Value)}
    {f_check_lengths : Addr} {oc_check_lengths kV_check_lengths dc_check_lengths pm_check_lengths cd_check_lengths ct_check_lengths : Value} {od_check_lengths an_check_lengths : Option Addr} {sl_check_lengths : Array (Option Value)}
    {f_piece_at : Addr} {oc_piece_at kV_piece_at dc_piece_at pm_piece_at cd_piece_at ct_piece_at : Value} {od_piece_at an_piece_at : Option Addr} {sl_piece_at : Array (Option Value)}
    {f_encode : Addr} {oc_encode kV_encode dc_encode pm_encode cd_encode ct_encode : Value} {od_encode an_encode : Option Addr} {sl_encode : Array (Option Value)}
    {f_present_numbers : Addr} {oc_present_numbers kV_present_numbers dc_present_numbers pm_present_numbers cd_present_numbers ct_present_numbers : Value} {od_present_numbers an_present_numbers : Option Addr} {sl_present_numbers : Array (Option Value)}
    {f_recover : Addr} {oc_recover kV_recover dc_recover pm_recover cd_recover ct_recover : Value} {od_recover an_recover : Option Addr} {sl_recover : Array (Option Value)}
    {f_check_words : Addr} {oc_check_words kV_check_words dc_check_words pm_check_words cd_check_words ct_check_words : Value} {od_check_words an_check_words : Option Addr} {sl_check_words : Array (Option Value)}
    {f_is_place : Addr} {oc_is_place kV_is_place dc_is_place pm_is_place cd_is_place ct_is_place : Value} {od_is_place an_is_place : Option Addr} {sl_is_place : Array (Option Value)}
    {f_seal : Addr} {oc_seal kV_seal dc_seal pm_seal cd_seal ct_seal : Value} {od_seal an_seal : Option Addr} {sl_seal : Array (Option Value)}
    {f_unseal : Addr} {oc_unseal kV_unseal dc_unseal pm_unseal cd_unseal ct_unseal : Value} {od_unseal an_unseal : Option Addr} {sl_unseal : Array (Option Value)}
    {f_is_whole : Addr} {oc_is_whole kV_is_whole dc_is_whole pm_is_whole cd_is_whole ct_is_whole : Value} {od_is_whole an_is_whole : Option Addr} {sl_is_whole : Array (Option Value)}
    {f_choose_disks : Addr} {oc_choose_disks kV_choose_disks dc_choose_disks pm_choose_disks cd_choose_disks ct_choose_disks : Value} {od_choose_disks an_choose_disks : Option Addr} {sl_choose_disks : Array (Option Value)}
    {f_piece_size : Addr} {oc_piece_size kV_piece_size dc_piece_size pm_piece_size cd_piece_size ct_piece_size : Value} {od_piece_size an_piece_size : Option Addr} {sl_piece_size : Array (Option Value)}
    {f_data_pieces : Addr} {oc_data_pieces kV_data_pieces dc_data_pieces pm_data_pieces cd_data_pieces ct_data_pieces : Value} {od_data_pieces an_data_pieces : Option Addr} {sl_data_pieces : Array (Option Value)}
    {f_piece_requests : Addr} {oc_piece_requests kV_piece_requests dc_piece_requests pm_piece_requests cd_piece_requests ct_piece_requests : Value} {od_piece_requests an_piece_requests : Option Addr} {sl_piece_requests : Array (Option Value)}
    {f_write_stripe : Addr} {oc_write_stripe kV_write_stripe dc_write_stripe pm_write_stripe cd_write_stripe ct_write_stripe : Value} {od_write_stripe an_write_stripe : Option Addr} {sl_write_stripe : Array (Option Value)}
    {f_good_piece : Addr} {oc_good_piece kV_good_piece dc_good_piece pm_good_piece cd_good_piece ct_good_piece : Value} {od_good_piece an_good_piece : Option Addr} {sl_good_piece : Array (Option Value)}
    {f_read_stripe : Addr} {oc_read_stripe kV_read_stripe dc_read_stripe pm_read_stripe cd_read_stripe ct_read_stripe : Value} {od_read_stripe an_read_stripe : Option Addr} {sl_read_stripe : Array (Option Value)}
    {f_law_pot : Addr} {oc_law_pot kV_law_pot dc_law_pot pm_law_pot cd_law_pot ct_law_pot : Value} {od_law_pot an_law_pot : Option Addr} {sl_law_pot : Array (Option Value)}
    {f_law_next : Addr} {oc_law_next kV_law_next dc_law_next pm_law_next cd_law_next ct_law_next : Value} {od_law_next an_law_next : Option Addr} {sl_law_next : Array (Option Value)}
    {f_law_add : Addr} {oc_law_add kV_law_add dc_law_add pm_law_add cd_law_add ct_law_add : Value} {od_law_add an_law_add : Option Addr} {sl_law_add : Array (Option Value)}
    {f_law_drop : Addr} {oc_law_drop kV_law_drop dc_law_drop pm_law_drop cd_law_drop ct_law_drop : Value} {od_law_drop an_law_drop : Option Addr} {sl_law_drop : Array (Option Value)}
    {f_law_put : Addr} {oc_law_put kV_law_put dc_law_put pm_law_put cd_law_put ct_law_put : Value} {od_law_put an_law_put : Option Addr} {sl_law_put : Array (Option Value)}
    {f_law_looks_right : Addr} {oc_law_looks_right kV_law_looks_right dc_law_looks_right pm_law_looks_right cd_law_looks_right ct_law_looks_right : Value} {od_law_looks_right an_law_looks_right : Option Addr} {sl_law_looks_right : Array (Option Value)}
    {f_law : Addr} {oc_law kV_law dc_law pm_law cd_law ct_law : Value} {od_law an_law : Option Addr} {sl_law : Array (Option Value)}
    {f_Space_init : Addr} {oc_Space_init kV_Space_init dc_Space_init pm_Space_init cd_Space_init ct_Space_init : Value} {od_Space_init an_Space_init : Option Addr} {sl_Space_init : Array (Option Value)}
    {f_Space_take : Addr} {oc_Space_take kV_Space_take dc_Space_take pm_Space_take cd_Space_take ct_Space_take : Value} {od_Space_take an_Space_take : Option Addr} {sl_Space_take : Array (Option Value)}
    {f_Space_give : Addr} {oc_Space_give kV_Space_give dc_Space_give pm_Space_give cd_Space_give ct_Space_give : Value} {od_Space_give an_Space_give : Option Addr} {sl_Space_give : Array (Option Value)}
    {f_Space_settle : Addr} {oc_Space_settle kV_Space_settle dc_Space_settle pm_Space_settle cd_Space_settle ct_Space_settle : Value} {od_Space_settle an_Space_settle : Option Addr} {sl_Space_settle : Array (Option Value)}
    {f_Space_free_count : Addr} {oc_Space_free_count kV_Space_free_count dc_Space_free_count pm_Space_free_count cd_Space_free_count ct_Space_free_count : Value} {od_Space_free_count an_Space_free_count : Option Addr} {sl_Space_free_count : Array (Option Value)}
    {f_Space_used_rows : Addr} {oc_Space_used_rows kV_Space_used_rows dc_Space_used_rows pm_Space_used_rows cd_Space_used_rows ct_Space_used_rows : Value} {od_Space_used_rows an_Space_used_rows : Option Addr} {sl_Space_used_rows : Array (Option Value)}
    {f_Space_waiting_rows : Addr} {oc_Space_waiting_rows kV_Space_waiting_rows dc_Space_waiting_rows pm_Space_waiting_rows cd_Space_waiting_rows ct_Space_waiting_rows : Value} {od_Space_waiting_rows an_Space_waiting_rows : Option Addr} {sl_Space_waiting_rows : Array (Option Value)}
    {f_Store_init : Addr} {oc_Store_init kV_Store_init dc_Store_init pm_Store_init cd_Store_init ct_Store_init : Value} {od_Store_init an_Store_init : Option Addr} {sl_Store_init : Array (Option Value)}
    {f_Store_look : Addr} {oc_Store_look kV_Store_look dc_Store_look pm_Store_look cd_Store_look ct_Store_look : Value} {od_Store_look an_Store_look : Option Addr} {sl_Store_look : Array (Option Value)}
    {f_Store_put : Addr} {oc_Store_put dc_Store_put pm_Store_put cd_Store_put ct_Store_put : Value} {od_Store_put an_Store_put : Option Addr} {sl_Store_put : Array (Option Value)}
    {f_Store_get : Addr} {oc_Store_get kV_Store_get dc_Store_get pm_Store_get cd_Store_get ct_Store_get : Value} {od_Store_get an_Store_get : Option Addr} {sl_Store_get : Array (Option Value)}
    {f_Store_commit : Addr} {oc_Store_commit kV_Store_commit dc_Store_commit pm_Store_commit cd_Store_commit ct_Store_commit : Value} {od_Store_commit an_Store_commit : Option Addr} {sl_Store_commit : Array (Option Value)}
    {f_Store_forget : Addr} {oc_Store_forget kV_Store_forget dc_Store_forget pm_Store_forget cd_Store_forget ct_Store_forget : Value} {od_Store_forget an_Store_forget : Option Addr} {sl_Store_forget : Array (Option Value)}
    {f_Store_add_member : Addr} {oc_Store_add_member kV_Store_add_member dc_Store_add_member pm_Store_add_member cd_Store_add_member ct_Store_add_member : Value} {od_Store_add_member an_Store_add_member : Option Addr} {sl_Store_add_member : Array (Option Value)}
    {f_Store_drop_member : Addr} {oc_Store_drop_member kV_Store_drop_member dc_Store_drop_member pm_Store_drop_member cd_Store_drop_member ct_Store_drop_member : Value} {od_Store_drop_member an_Store_drop_member : Option Addr} {sl_Store_drop_member : Array (Option Value)}
    {f_Store_free_counts : Addr} {oc_Store_free_counts kV_Store_free_counts dc_Store_free_counts pm_Store_free_counts cd_Store_free_counts ct_Store_free_counts : Value} {od_Store_free_counts an_Store_free_counts : Option Addr} {sl_Store_free_counts : Array (Option Value)}
    {c_PoolError : Addr}
    {c_InvalidArgument : Addr}
    {c_NotEnoughPieces : Addr}
    {c_NoSpace : Addr}
    {c_NotEnoughDisks : Addr}
    {c_Damaged : Addr}
    {c_Space : Addr}
    {c_Store : Addr}
    {kd_Store_put e_Store_put : Addr} {de_Store_put : Option Addr} {ne_Store_put : Nat} {se_Store_put : Array (Option Value)}
    {tk_PRIME : Tok}
    {tk_MAX_PIECES : Tok}
    {tk_MAX_DISKS : Tok}
    {tk_MAX_PAYLOAD : Tok}
    {tk_MAX_ROWS : Tok}
    {tk_FIRST_ROW : Tok}
    {tk_NEW : Tok}
    {tk_OLD : Tok}
    {tk_WAITING : Tok}
    {tk_LABEL : Tok}
    {tk_PIECE : Tok}
    {tk_HEADER_WORDS : Tok}
    {tk_CHECK_WORDS : Tok}
    (a_Space : PySem.W.nsIn K mainGlobals "Space" = some (some (.ref c_Space)))
    (a_Store : PySem.W.nsIn K mainGlobals "Store" = some (some (.ref c_Store)))
    (a_is_present : PySem.W.nsIn K mainGlobals "is_present" = some (some (.ref f_is_present)))
    (l_is_present : K.lookup f_is_present = some ⟨oc_is_present, od_is_present, .func (PySem.W.fnOf "is_present" "is_present" (defArgs s_is_present) (defBody s_is_present) (defScope s_is_present) .none kV_is_present dc_is_present pm_is_present an_is_present cd_is_present ct_is_present), sl_is_present⟩)
    (q_is_present : PySem.W.codeIn K cd_is_present "is_present" = true)
    (k_is_present : PySem.W.keepIn K (.ref f_is_present) = true)
    (a_sector_at : PySem.W.nsIn K mainGlobals "sector_at" = some (some (.ref f_sector_at)))
    (l_sector_at : K.lookup f_sector_at = some ⟨oc_sector_at, od_sector_at, .func (PySem.W.fnOf "sector_at" "sector_at" (defArgs s_sector_at) (defBody s_sector_at) (defScope s_sector_at) .none kV_sector_at dc_sector_at pm_sector_at an_sector_at cd_sector_at ct_sector_at), sl_sector_at⟩)
    (q_sector_at : PySem.W.codeIn K cd_sector_at "sector_at" = true)
    (k_sector_at : PySem.W.keepIn K (.ref f_sector_at) = true)
    (a_inverse : PySem.W.nsIn K mainGlobals "inverse" = some (some (.ref f_inverse)))
    (l_inverse : K.lookup f_inverse = some ⟨oc_inverse, od_inverse, .func (PySem.W.fnOf "inverse" "inverse" (defArgs s_inverse) (defBody s_inverse) (defScope s_inverse) .none kV_inverse dc_inverse pm_inverse an_inverse cd_inverse ct_inverse), sl_inverse⟩)
    (q_inverse : PySem.W.codeIn K cd_inverse "inverse" = true)
    (k_inverse : PySem.W.keepIn K (.ref f_inverse) = true)
    (a_weight : PySem.W.nsIn K mainGlobals "weight" = some (some (.ref f_weight)))
    (l_weight : K.lookup f_weight = some ⟨oc_weight, od_weight, .func (PySem.W.fnOf "weight" "weight" (defArgs s_weight) (defBody s_weight) (defScope s_weight) .none kV_weight dc_weight pm_weight an_weight cd_weight ct_weight), sl_weight⟩)
    (q_weight : PySem.W.codeIn K cd_weight "weight" = true)
    (k_weight : PySem.W.keepIn K (.ref f_weight) = true)
    (a_weights : PySem.W.nsIn K mainGlobals "weights" = some (some (.ref f_weights)))
    (l_weights : K.lookup f_weights = some ⟨oc_weights, od_weights, .func (PySem.W.fnOf "weights" "weights" (defArgs s_weights) (defBody s_weights) (defScope s_weights) .none kV_weights dc_weights pm_weights an_weights cd_weights ct_weights), sl_weights⟩)
    (q_weights : PySem.W.codeIn K cd_weights "weights" = true)
    (k_weights : PySem.W.keepIn K (.ref f_weights) = true)
    (a_check_lengths : PySem.W.nsIn K mainGlobals "check_lengths" = some (some (.ref f_check_lengths)))
    (l_check_lengths : K.lookup f_check_lengths = some ⟨oc_check_lengths, od_check_lengths, .func (PySem.W.fnOf "check_lengths" "check_lengths" (defArgs s_check_lengths) (defBody s_check_lengths) (defScope s_check_lengths) .none kV_check_lengths dc_check_lengths pm_check_lengths an_check_lengths cd_check_lengths ct_check_lengths), sl_check_lengths⟩)
    (q_check_lengths : PySem.W.codeIn K cd_check_lengths "check_lengths" = true)
    (k_check_lengths : PySem.W.keepIn K (.ref f_check_lengths) = true)
    (a_piece_at : PySem.W.nsIn K mainGlobals "piece_at" = some (some (.ref f_piece_at)))
    (l_piece_at : K.lookup f_piece_at = some ⟨oc_piece_at, od_piece_at, .func (PySem.W.fnOf "piece_at" "piece_at" (defArgs s_piece_at) (defBody s_piece_at) (defScope s_piece_at) .none kV_piece_at dc_piece_at pm_piece_at an_piece_at cd_piece_at ct_piece_at), sl_piece_at⟩)
    (q_piece_at : PySem.W.codeIn K cd_piece_at "piece_at" = true)
    (k_piece_at : PySem.W.keepIn K (.ref f_piece_at) = true)
    (a_encode : PySem.W.nsIn K mainGlobals "encode" = some (some (.ref f_encode)))
    (l_encode : K.lookup f_encode = some ⟨oc_encode, od_encode, .func (PySem.W.fnOf "encode" "encode" (defArgs s_encode) (defBody s_encode) (defScope s_encode) .none kV_encode dc_encode pm_encode an_encode cd_encode ct_encode), sl_encode⟩)
    (q_encode : PySem.W.codeIn K cd_encode "encode" = true)
    (k_encode : PySem.W.keepIn K (.ref f_encode) = true)
    (a_present_numbers : PySem.W.nsIn K mainGlobals "present_numbers" = some (some (.ref f_present_numbers)))
    (l_present_numbers : K.lookup f_present_numbers = some ⟨oc_present_numbers, od_present_numbers, .func (PySem.W.fnOf "present_numbers" "present_numbers" (defArgs s_present_numbers) (defBody s_present_numbers) (defScope s_present_numbers) .none kV_present_numbers dc_present_numbers pm_present_numbers an_present_numbers cd_present_numbers ct_present_numbers), sl_present_numbers⟩)
    (q_present_numbers : PySem.W.codeIn K cd_present_numbers "present_numbers" = true)
    (k_present_numbers : PySem.W.keepIn K (.ref f_present_numbers) = true)
    (a_recover : PySem.W.nsIn K mainGlobals "recover" = some (some (.ref f_recover)))
    (l_recover : K.lookup f_recover = some ⟨oc_recover, od_recover, .func (PySem.W.fnOf "recover" "recover" (defArgs s_recover) (defBody s_recover) (defScope s_recover) .none kV_recover dc_recover pm_recover an_recover cd_recover ct_recover), sl_recover⟩)
    (q_recover : PySem.W.codeIn K cd_recover "recover" = true)
    (k_recover : PySem.W.keepIn K (.ref f_recover) = true)
    (a_check_words : PySem.W.nsIn K mainGlobals "check_words" = some (some (.ref f_check_words)))
    (l_check_words : K.lookup f_check_words = some ⟨oc_check_words, od_check_words, .func (PySem.W.fnOf "check_words" "check_words" (defArgs s_check_words) (defBody s_check_words) (defScope s_check_words) .none kV_check_words dc_check_words pm_check_words an_check_words cd_check_words ct_check_words), sl_check_words⟩)
    (q_check_words : PySem.W.codeIn K cd_check_words "check_words" = true)
    (k_check_words : PySem.W.keepIn K (.ref f_check_words) = true)
    (a_is_place : PySem.W.nsIn K mainGlobals "is_place" = some (some (.ref f_is_place)))
    (l_is_place : K.lookup f_is_place = some ⟨oc_is_place, od_is_place, .func (PySem.W.fnOf "is_place" "is_place" (defArgs s_is_place) (defBody s_is_place) (defScope s_is_place) .none kV_is_place dc_is_place pm_is_place an_is_place cd_is_place ct_is_place), sl_is_place⟩)
    (q_is_place : PySem.W.codeIn K cd_is_place "is_place" = true)
    (k_is_place : PySem.W.keepIn K (.ref f_is_place) = true)
    (a_seal : PySem.W.nsIn K mainGlobals "seal" = some (some (.ref f_seal)))
    (l_seal : K.lookup f_seal = some ⟨oc_seal, od_seal, .func (PySem.W.fnOf "seal" "seal" (defArgs s_seal) (defBody s_seal) (defScope s_seal) .none kV_seal dc_seal pm_seal an_seal cd_seal ct_seal), sl_seal⟩)
    (q_seal : PySem.W.codeIn K cd_seal "seal" = true)
    (k_seal : PySem.W.keepIn K (.ref f_seal) = true)
    (a_unseal : PySem.W.nsIn K mainGlobals "unseal" = some (some (.ref f_unseal)))
    (l_unseal : K.lookup f_unseal = some ⟨oc_unseal, od_unseal, .func (PySem.W.fnOf "unseal" "unseal" (defArgs s_unseal) (defBody s_unseal) (defScope s_unseal) .none kV_unseal dc_unseal pm_unseal an_unseal cd_unseal ct_unseal), sl_unseal⟩)
    (q_unseal : PySem.W.codeIn K cd_unseal "unseal" = true)
    (k_unseal : PySem.W.keepIn K (.ref f_unseal) = true)
    (a_is_whole : PySem.W.nsIn K mainGlobals "is_whole" = some (some (.ref f_is_whole)))
    (l_is_whole : K.lookup f_is_whole = some ⟨oc_is_whole, od_is_whole, .func (PySem.W.fnOf "is_whole" "is_whole" (defArgs s_is_whole) (defBody s_is_whole) (defScope s_is_whole) .none kV_is_whole dc_is_whole pm_is_whole an_is_whole cd_is_whole ct_is_whole), sl_is_whole⟩)
    (q_is_whole : PySem.W.codeIn K cd_is_whole "is_whole" = true)
    (k_is_whole : PySem.W.keepIn K (.ref f_is_whole) = true)
    (a_choose_disks : PySem.W.nsIn K mainGlobals "choose_disks" = some (some (.ref f_choose_disks)))
    (l_choose_disks : K.lookup f_choose_disks = some ⟨oc_choose_disks, od_choose_disks, .func (PySem.W.fnOf "choose_disks" "choose_disks" (defArgs s_choose_disks) (defBody s_choose_disks) (defScope s_choose_disks) .none kV_choose_disks dc_choose_disks pm_choose_disks an_choose_disks cd_choose_disks ct_choose_disks), sl_choose_disks⟩)
    (q_choose_disks : PySem.W.codeIn K cd_choose_disks "choose_disks" = true)
    (k_choose_disks : PySem.W.keepIn K (.ref f_choose_disks) = true)
    (a_piece_size : PySem.W.nsIn K mainGlobals "piece_size" = some (some (.ref f_piece_size)))
    (l_piece_size : K.lookup f_piece_size = some ⟨oc_piece_size, od_piece_size, .func (PySem.W.fnOf "piece_size" "piece_size" (defArgs s_piece_size) (defBody s_piece_size) (defScope s_piece_size) .none kV_piece_size dc_piece_size pm_piece_size an_piece_size cd_piece_size ct_piece_size), sl_piece_size⟩)
    (q_piece_size : PySem.W.codeIn K cd_piece_size "piece_size" = true)
    (k_piece_size : PySem.W.keepIn K (.ref f_piece_size) = true)
    (a_data_pieces : PySem.W.nsIn K mainGlobals "data_pieces" = some (some (.ref f_data_pieces)))
    (l_data_pieces : K.lookup f_data_pieces = some ⟨oc_data_pieces, od_data_pieces, .func (PySem.W.fnOf "data_pieces" "data_pieces" (defArgs s_data_pieces) (defBody s_data_pieces) (defScope s_data_pieces) .none kV_data_pieces dc_data_pieces pm_data_pieces an_data_pieces cd_data_pieces ct_data_pieces), sl_data_pieces⟩)
    (q_data_pieces : PySem.W.codeIn K cd_data_pieces "data_pieces" = true)
    (k_data_pieces : PySem.W.keepIn K (.ref f_data_pieces) = true)
    (a_piece_requests : PySem.W.nsIn K mainGlobals "piece_requests" = some (some (.ref f_piece_requests)))
    (l_piece_requests : K.lookup f_piece_requests = some ⟨oc_piece_requests, od_piece_requests, .func (PySem.W.fnOf "piece_requests" "piece_requests" (defArgs s_piece_requests) (defBody s_piece_requests) (defScope s_piece_requests) .none kV_piece_requests dc_piece_requests pm_piece_requests an_piece_requests cd_piece_requests ct_piece_requests), sl_piece_requests⟩)
    (q_piece_requests : PySem.W.codeIn K cd_piece_requests "piece_requests" = true)
    (k_piece_requests : PySem.W.keepIn K (.ref f_piece_requests) = true)
    (a_write_stripe : PySem.W.nsIn K mainGlobals "write_stripe" = some (some (.ref f_write_stripe)))
    (l_write_stripe : K.lookup f_write_stripe = some ⟨oc_write_stripe, od_write_stripe, .func (PySem.W.fnOf "write_stripe" "write_stripe" (defArgs s_write_stripe) (defBody s_write_stripe) (defScope s_write_stripe) .none kV_write_stripe dc_write_stripe pm_write_stripe an_write_stripe cd_write_stripe ct_write_stripe), sl_write_stripe⟩)
    (q_write_stripe : PySem.W.codeIn K cd_write_stripe "write_stripe" = true)
    (k_write_stripe : PySem.W.keepIn K (.ref f_write_stripe) = true)
    (a_good_piece : PySem.W.nsIn K mainGlobals "good_piece" = some (some (.ref f_good_piece)))
    (l_good_piece : K.lookup f_good_piece = some ⟨oc_good_piece, od_good_piece, .func (PySem.W.fnOf "good_piece" "good_piece" (defArgs s_good_piece) (defBody s_good_piece) (defScope s_good_piece) .none kV_good_piece dc_good_piece pm_good_piece an_good_piece cd_good_piece ct_good_piece), sl_good_piece⟩)
    (q_good_piece : PySem.W.codeIn K cd_good_piece "good_piece" = true)
    (k_good_piece : PySem.W.keepIn K (.ref f_good_piece) = true)
    (a_read_stripe : PySem.W.nsIn K mainGlobals "read_stripe" = some (some (.ref f_read_stripe)))
    (l_read_stripe : K.lookup f_read_stripe = some ⟨oc_read_stripe, od_read_stripe, .func (PySem.W.fnOf "read_stripe" "read_stripe" (defArgs s_read_stripe) (defBody s_read_stripe) (defScope s_read_stripe) .none kV_read_stripe dc_read_stripe pm_read_stripe an_read_stripe cd_read_stripe ct_read_stripe), sl_read_stripe⟩)
    (q_read_stripe : PySem.W.codeIn K cd_read_stripe "read_stripe" = true)
    (k_read_stripe : PySem.W.keepIn K (.ref f_read_stripe) = true)
    (a_law_pot : PySem.W.nsIn K mainGlobals "_law_pot" = some (some (.ref f_law_pot)))
    (l_law_pot : K.lookup f_law_pot = some ⟨oc_law_pot, od_law_pot, .func (PySem.W.fnOf "_law_pot" "_law_pot" (defArgs s_law_pot) (defBody s_law_pot) (defScope s_law_pot) .none kV_law_pot dc_law_pot pm_law_pot an_law_pot cd_law_pot ct_law_pot), sl_law_pot⟩)
    (q_law_pot : PySem.W.codeIn K cd_law_pot "_law_pot" = true)
    (k_law_pot : PySem.W.keepIn K (.ref f_law_pot) = true)
    (a_law_next : PySem.W.nsIn K mainGlobals "_law_next" = some (some (.ref f_law_next)))
    (l_law_next : K.lookup f_law_next = some ⟨oc_law_next, od_law_next, .func (PySem.W.fnOf "_law_next" "_law_next" (defArgs s_law_next) (defBody s_law_next) (defScope s_law_next) .none kV_law_next dc_law_next pm_law_next an_law_next cd_law_next ct_law_next), sl_law_next⟩)
    (q_law_next : PySem.W.codeIn K cd_law_next "_law_next" = true)
    (k_law_next : PySem.W.keepIn K (.ref f_law_next) = true)
    (a_law_add : PySem.W.nsIn K mainGlobals "_law_add" = some (some (.ref f_law_add)))
    (l_law_add : K.lookup f_law_add = some ⟨oc_law_add, od_law_add, .func (PySem.W.fnOf "_law_add" "_law_add" (defArgs s_law_add) (defBody s_law_add) (defScope s_law_add) .none kV_law_add dc_law_add pm_law_add an_law_add cd_law_add ct_law_add), sl_law_add⟩)
    (q_law_add : PySem.W.codeIn K cd_law_add "_law_add" = true)
    (k_law_add : PySem.W.keepIn K (.ref f_law_add) = true)
    (a_law_drop : PySem.W.nsIn K mainGlobals "_law_drop" = some (some (.ref f_law_drop)))
    (l_law_drop : K.lookup f_law_drop = some ⟨oc_law_drop, od_law_drop, .func (PySem.W.fnOf "_law_drop" "_law_drop" (defArgs s_law_drop) (defBody s_law_drop) (defScope s_law_drop) .none kV_law_drop dc_law_drop pm_law_drop an_law_drop cd_law_drop ct_law_drop), sl_law_drop⟩)
    (q_law_drop : PySem.W.codeIn K cd_law_drop "_law_drop" = true)
    (k_law_drop : PySem.W.keepIn K (.ref f_law_drop) = true)
    (a_law_put : PySem.W.nsIn K mainGlobals "_law_put" = some (some (.ref f_law_put)))
    (l_law_put : K.lookup f_law_put = some ⟨oc_law_put, od_law_put, .func (PySem.W.fnOf "_law_put" "_law_put" (defArgs s_law_put) (defBody s_law_put) (defScope s_law_put) .none kV_law_put dc_law_put pm_law_put an_law_put cd_law_put ct_law_put), sl_law_put⟩)
    (q_law_put : PySem.W.codeIn K cd_law_put "_law_put" = true)
    (k_law_put : PySem.W.keepIn K (.ref f_law_put) = true)
    (a_law_looks_right : PySem.W.nsIn K mainGlobals "_law_looks_right" = some (some (.ref f_law_looks_right)))
    (l_law_looks_right : K.lookup f_law_looks_right = some ⟨oc_law_looks_right, od_law_looks_right, .func (PySem.W.fnOf "_law_looks_right" "_law_looks_right" (defArgs s_law_looks_right) (defBody s_law_looks_right) (defScope s_law_looks_right) .none kV_law_looks_right dc_law_looks_right pm_law_looks_right an_law_looks_right cd_law_looks_right ct_law_looks_right), sl_law_looks_right⟩)
    (q_law_looks_right : PySem.W.codeIn K cd_law_looks_right "_law_looks_right" = true)
    (k_law_looks_right : PySem.W.keepIn K (.ref f_law_looks_right) = true)
    (a_law : PySem.W.nsIn K mainGlobals "law" = some (some (.ref f_law)))
    (l_law : K.lookup f_law = some ⟨oc_law, od_law, .func (PySem.W.fnOf "law" "law" (defArgs s_law) (defBody s_law) (defScope s_law) .none kV_law dc_law pm_law an_law cd_law ct_law), sl_law⟩)
    (q_law : PySem.W.codeIn K cd_law "law" = true)
    (k_law : PySem.W.keepIn K (.ref f_law) = true)
    (a_Space_init : PySem.W.findIn K (.ref c_Space) "__init__" = some (some (.ref f_Space_init)))
    (i_Space_init : PySem.W.isFn K (.ref f_Space_init) = true)
    (l_Space_init : K.lookup f_Space_init = some ⟨oc_Space_init, od_Space_init, .func (PySem.W.fnOf "__init__" "Space.__init__" (defArgs s_Space_init) (defBody s_Space_init) (defScope s_Space_init) .none kV_Space_init dc_Space_init pm_Space_init an_Space_init cd_Space_init ct_Space_init), sl_Space_init⟩)
    (q_Space_init : PySem.W.codeIn K cd_Space_init "Space.__init__" = true)
    (k_Space_init : PySem.W.keepIn K (.ref f_Space_init) = true)
    (a_Space_take : PySem.W.findIn K (.ref c_Space) "take" = some (some (.ref f_Space_take)))
    (i_Space_take : PySem.W.isFn K (.ref f_Space_take) = true)
    (l_Space_take : K.lookup f_Space_take = some ⟨oc_Space_take, od_Space_take, .func (PySem.W.fnOf "take" "Space.take" (defArgs s_Space_take) (defBody s_Space_take) (defScope s_Space_take) .none kV_Space_take dc_Space_take pm_Space_take an_Space_take cd_Space_take ct_Space_take), sl_Space_take⟩)
    (q_Space_take : PySem.W.codeIn K cd_Space_take "Space.take" = true)
    (k_Space_take : PySem.W.keepIn K (.ref f_Space_take) = true)
    (a_Space_give : PySem.W.findIn K (.ref c_Space) "give" = some (some (.ref f_Space_give)))
    (i_Space_give : PySem.W.isFn K (.ref f_Space_give) = true)
    (l_Space_give : K.lookup f_Space_give = some ⟨oc_Space_give, od_Space_give, .func (PySem.W.fnOf "give" "Space.give" (defArgs s_Space_give) (defBody s_Space_give) (defScope s_Space_give) .none kV_Space_give dc_Space_give pm_Space_give an_Space_give cd_Space_give ct_Space_give), sl_Space_give⟩)
    (q_Space_give : PySem.W.codeIn K cd_Space_give "Space.give" = true)
    (k_Space_give : PySem.W.keepIn K (.ref f_Space_give) = true)
    (a_Space_settle : PySem.W.findIn K (.ref c_Space) "settle" = some (some (.ref f_Space_settle)))
    (i_Space_settle : PySem.W.isFn K (.ref f_Space_settle) = true)
    (l_Space_settle : K.lookup f_Space_settle = some ⟨oc_Space_settle, od_Space_settle, .func (PySem.W.fnOf "settle" "Space.settle" (defArgs s_Space_settle) (defBody s_Space_settle) (defScope s_Space_settle) .none kV_Space_settle dc_Space_settle pm_Space_settle an_Space_settle cd_Space_settle ct_Space_settle), sl_Space_settle⟩)
    (q_Space_settle : PySem.W.codeIn K cd_Space_settle "Space.settle" = true)
    (k_Space_settle : PySem.W.keepIn K (.ref f_Space_settle) = true)
    (a_Space_free_count : PySem.W.findIn K (.ref c_Space) "free_count" = some (some (.ref f_Space_free_count)))
    (i_Space_free_count : PySem.W.isFn K (.ref f_Space_free_count) = true)
    (l_Space_free_count : K.lookup f_Space_free_count = some ⟨oc_Space_free_count, od_Space_free_count, .func (PySem.W.fnOf "free_count" "Space.free_count" (defArgs s_Space_free_count) (defBody s_Space_free_count) (defScope s_Space_free_count) .none kV_Space_free_count dc_Space_free_count pm_Space_free_count an_Space_free_count cd_Space_free_count ct_Space_free_count), sl_Space_free_count⟩)
    (q_Space_free_count : PySem.W.codeIn K cd_Space_free_count "Space.free_count" = true)
    (k_Space_free_count : PySem.W.keepIn K (.ref f_Space_free_count) = true)
    (a_Space_used_rows : PySem.W.findIn K (.ref c_Space) "used_rows" = some (some (.ref f_Space_used_rows)))
    (i_Space_used_rows : PySem.W.isFn K (.ref f_Space_used_rows) = true)
    (l_Space_used_rows : K.lookup f_Space_used_rows = some ⟨oc_Space_used_rows, od_Space_used_rows, .func (PySem.W.fnOf "used_rows" "Space.used_rows" (defArgs s_Space_used_rows) (defBody s_Space_used_rows) (defScope s_Space_used_rows) .none kV_Space_used_rows dc_Space_used_rows pm_Space_used_rows an_Space_used_rows cd_Space_used_rows ct_Space_used_rows), sl_Space_used_rows⟩)
    (q_Space_used_rows : PySem.W.codeIn K cd_Space_used_rows "Space.used_rows" = true)
    (k_Space_used_rows : PySem.W.keepIn K (.ref f_Space_used_rows) = true)
    (a_Space_waiting_rows : PySem.W.findIn K (.ref c_Space) "waiting_rows" = some (some (.ref f_Space_waiting_rows)))
    (i_Space_waiting_rows : PySem.W.isFn K (.ref f_Space_waiting_rows) = true)
    (l_Space_waiting_rows : K.lookup f_Space_waiting_rows = some ⟨oc_Space_waiting_rows, od_Space_waiting_rows, .func (PySem.W.fnOf "waiting_rows" "Space.waiting_rows" (defArgs s_Space_waiting_rows) (defBody s_Space_waiting_rows) (defScope s_Space_waiting_rows) .none kV_Space_waiting_rows dc_Space_waiting_rows pm_Space_waiting_rows an_Space_waiting_rows cd_Space_waiting_rows ct_Space_waiting_rows), sl_Space_waiting_rows⟩)
    (q_Space_waiting_rows : PySem.W.codeIn K cd_Space_waiting_rows "Space.waiting_rows" = true)
    (k_Space_waiting_rows : PySem.W.keepIn K (.ref f_Space_waiting_rows) = true)
    (a_Store_init : PySem.W.findIn K (.ref c_Store) "__init__" = some (some (.ref f_Store_init)))
    (i_Store_init : PySem.W.isFn K (.ref f_Store_init) = true)
    (l_Store_init : K.lookup f_Store_init = some ⟨oc_Store_init, od_Store_init, .func (PySem.W.fnOf "__init__" "Store.__init__" (defArgs s_Store_init) (defBody s_Store_init) (defScope s_Store_init) .none kV_Store_init dc_Store_init pm_Store_init an_Store_init cd_Store_init ct_Store_init), sl_Store_init⟩)
    (q_Store_init : PySem.W.codeIn K cd_Store_init "Store.__init__" = true)
    (k_Store_init : PySem.W.keepIn K (.ref f_Store_init) = true)
    (a_Store_look : PySem.W.findIn K (.ref c_Store) "look" = some (some (.ref f_Store_look)))
    (i_Store_look : PySem.W.isFn K (.ref f_Store_look) = true)
    (l_Store_look : K.lookup f_Store_look = some ⟨oc_Store_look, od_Store_look, .func (PySem.W.fnOf "look" "Store.look" (defArgs s_Store_look) (defBody s_Store_look) (defScope s_Store_look) .none kV_Store_look dc_Store_look pm_Store_look an_Store_look cd_Store_look ct_Store_look), sl_Store_look⟩)
    (q_Store_look : PySem.W.codeIn K cd_Store_look "Store.look" = true)
    (k_Store_look : PySem.W.keepIn K (.ref f_Store_look) = true)
    (a_Store_put : PySem.W.findIn K (.ref c_Store) "put" = some (some (.ref f_Store_put)))
    (i_Store_put : PySem.W.isFn K (.ref f_Store_put) = true)
    (l_Store_put : K.lookup f_Store_put = some ⟨oc_Store_put, od_Store_put, .func (PySem.W.fnOf "put" "Store.put" (defArgs s_Store_put) (defBody s_Store_put) (defScope s_Store_put) .none (.ref kd_Store_put) dc_Store_put pm_Store_put an_Store_put cd_Store_put ct_Store_put), sl_Store_put⟩)
    (kw_Store_put : PySem.W.nsIn K kd_Store_put "avoid" = some (some (.ref e_Store_put)))
    (le_Store_put : K.lookup e_Store_put = some ⟨.type "tuple", de_Store_put, .seq #[] ne_Store_put, se_Store_put⟩)
    (q_Store_put : PySem.W.codeIn K cd_Store_put "Store.put" = true)
    (k_Store_put : PySem.W.keepIn K (.ref f_Store_put) = true)
    (a_Store_get : PySem.W.findIn K (.ref c_Store) "get" = some (some (.ref f_Store_get)))
    (i_Store_get : PySem.W.isFn K (.ref f_Store_get) = true)
    (l_Store_get : K.lookup f_Store_get = some ⟨oc_Store_get, od_Store_get, .func (PySem.W.fnOf "get" "Store.get" (defArgs s_Store_get) (defBody s_Store_get) (defScope s_Store_get) .none kV_Store_get dc_Store_get pm_Store_get an_Store_get cd_Store_get ct_Store_get), sl_Store_get⟩)
    (q_Store_get : PySem.W.codeIn K cd_Store_get "Store.get" = true)
    (k_Store_get : PySem.W.keepIn K (.ref f_Store_get) = true)
    (a_Store_commit : PySem.W.findIn K (.ref c_Store) "commit" = some (some (.ref f_Store_commit)))
    (i_Store_commit : PySem.W.isFn K (.ref f_Store_commit) = true)
    (l_Store_commit : K.lookup f_Store_commit = some ⟨oc_Store_commit, od_Store_commit, .func (PySem.W.fnOf "commit" "Store.commit" (defArgs s_Store_commit) (defBody s_Store_commit) (defScope s_Store_commit) .none kV_Store_commit dc_Store_commit pm_Store_commit an_Store_commit cd_Store_commit ct_Store_commit), sl_Store_commit⟩)
    (q_Store_commit : PySem.W.codeIn K cd_Store_commit "Store.commit" = true)
    (k_Store_commit : PySem.W.keepIn K (.ref f_Store_commit) = true)
    (a_Store_forget : PySem.W.findIn K (.ref c_Store) "_forget" = some (some (.ref f_Store_forget)))
    (i_Store_forget : PySem.W.isFn K (.ref f_Store_forget) = true)
    (l_Store_forget : K.lookup f_Store_forget = some ⟨oc_Store_forget, od_Store_forget, .func (PySem.W.fnOf "_forget" "Store._forget" (defArgs s_Store_forget) (defBody s_Store_forget) (defScope s_Store_forget) .none kV_Store_forget dc_Store_forget pm_Store_forget an_Store_forget cd_Store_forget ct_Store_forget), sl_Store_forget⟩)
    (q_Store_forget : PySem.W.codeIn K cd_Store_forget "Store._forget" = true)
    (k_Store_forget : PySem.W.keepIn K (.ref f_Store_forget) = true)
    (a_Store_add_member : PySem.W.findIn K (.ref c_Store) "add_member" = some (some (.ref f_Store_add_member)))
    (i_Store_add_member : PySem.W.isFn K (.ref f_Store_add_member) = true)
    (l_Store_add_member : K.lookup f_Store_add_member = some ⟨oc_Store_add_member, od_Store_add_member, .func (PySem.W.fnOf "add_member" "Store.add_member" (defArgs s_Store_add_member) (defBody s_Store_add_member) (defScope s_Store_add_member) .none kV_Store_add_member dc_Store_add_member pm_Store_add_member an_Store_add_member cd_Store_add_member ct_Store_add_member), sl_Store_add_member⟩)
    (q_Store_add_member : PySem.W.codeIn K cd_Store_add_member "Store.add_member" = true)
    (k_Store_add_member : PySem.W.keepIn K (.ref f_Store_add_member) = true)
    (a_Store_drop_member : PySem.W.findIn K (.ref c_Store) "drop_member" = some (some (.ref f_Store_drop_member)))
    (i_Store_drop_member : PySem.W.isFn K (.ref f_Store_drop_member) = true)
    (l_Store_drop_member : K.lookup f_Store_drop_member = some ⟨oc_Store_drop_member, od_Store_drop_member, .func (PySem.W.fnOf "drop_member" "Store.drop_member" (defArgs s_Store_drop_member) (defBody s_Store_drop_member) (defScope s_Store_drop_member) .none kV_Store_drop_member dc_Store_drop_member pm_Store_drop_member an_Store_drop_member cd_Store_drop_member ct_Store_drop_member), sl_Store_drop_member⟩)
    (q_Store_drop_member : PySem.W.codeIn K cd_Store_drop_member "Store.drop_member" = true)
    (k_Store_drop_member : PySem.W.keepIn K (.ref f_Store_drop_member) = true)
    (a_Store_free_counts : PySem.W.findIn K (.ref c_Store) "free_counts" = some (some (.ref f_Store_free_counts)))
    (i_Store_free_counts : PySem.W.isFn K (.ref f_Store_free_counts) = true)
    (l_Store_free_counts : K.lookup f_Store_free_counts = some ⟨oc_Store_free_counts, od_Store_free_counts, .func (PySem.W.fnOf "free_counts" "Store.free_counts" (defArgs s_Store_free_counts) (defBody s_Store_free_counts) (defScope s_Store_free_counts) .none kV_Store_free_counts dc_Store_free_counts pm_Store_free_counts an_Store_free_counts cd_Store_free_counts ct_Store_free_counts), sl_Store_free_counts⟩)
    (q_Store_free_counts : PySem.W.codeIn K cd_Store_free_counts "Store.free_counts" = true)
    (k_Store_free_counts : PySem.W.keepIn K (.ref f_Store_free_counts) = true)
    (a_PRIME : PySem.W.nsIn K mainGlobals "PRIME" = some (some (.int 65521 tk_PRIME)))
    (a_MAX_PIECES : PySem.W.nsIn K mainGlobals "MAX_PIECES" = some (some (.int 8 tk_MAX_PIECES)))
    (a_MAX_DISKS : PySem.W.nsIn K mainGlobals "MAX_DISKS" = some (some (.int 8 tk_MAX_DISKS)))
    (a_MAX_PAYLOAD : PySem.W.nsIn K mainGlobals "MAX_PAYLOAD" = some (some (.int 1000 tk_MAX_PAYLOAD)))
    (a_MAX_ROWS : PySem.W.nsIn K mainGlobals "MAX_ROWS" = some (some (.int 4000 tk_MAX_ROWS)))
    (a_FIRST_ROW : PySem.W.nsIn K mainGlobals "FIRST_ROW" = some (some (.int 18 tk_FIRST_ROW)))
    (a_NEW : PySem.W.nsIn K mainGlobals "NEW" = some (some (.int 1 tk_NEW)))
    (a_OLD : PySem.W.nsIn K mainGlobals "OLD" = some (some (.int 2 tk_OLD)))
    (a_WAITING : PySem.W.nsIn K mainGlobals "WAITING" = some (some (.int 3 tk_WAITING)))
    (a_LABEL : PySem.W.nsIn K mainGlobals "LABEL" = some (some (.int 1 tk_LABEL)))
    (a_PIECE : PySem.W.nsIn K mainGlobals "PIECE" = some (some (.int 3 tk_PIECE)))
    (a_HEADER_WORDS : PySem.W.nsIn K mainGlobals "HEADER_WORDS" = some (some (.int 6 tk_HEADER_WORDS)))
    (a_CHECK_WORDS : PySem.W.nsIn K mainGlobals "CHECK_WORDS" = some (some (.int 2 tk_CHECK_WORDS)))
    (n_len : PySem.W.nsIn K mainGlobals "len" = some none)
    (n_enumerate : PySem.W.nsIn K mainGlobals "enumerate" = some none)
    (n_sum : PySem.W.nsIn K mainGlobals "sum" = some none)
    (n_zip : PySem.W.nsIn K mainGlobals "zip" = some none)
    (n_list : PySem.W.nsIn K mainGlobals "list" = some none)
    (n_range : PySem.W.nsIn K mainGlobals "range" = some none)
    (n_tuple : PySem.W.nsIn K mainGlobals "tuple" = some none)
    (n_min : PySem.W.nsIn K mainGlobals "min" = some none)
    (n_max : PySem.W.nsIn K mainGlobals "max" = some none)
    (n_sorted : PySem.W.nsIn K mainGlobals "sorted" = some none)
    (n_int : PySem.W.nsIn K mainGlobals "int" = some none)
    (n_abs : PySem.W.nsIn K mainGlobals "abs" = some none)
    (n_isinstance : PySem.W.nsIn K mainGlobals "isinstance" = some none)
    (n_dict : PySem.W.nsIn K mainGlobals "dict" = some none)
    (n_all : PySem.W.nsIn K mainGlobals "all" = some none)
    (pg_Space : PySem.W.plainGet K c_Space Str.empty = true)
    (hd_Space : PySem.W.hasDictIn K c_Space = true)
    (po_Space : PySem.W.plainOver K c_Space = true)
    (sa_Space : PySem.W.findIn K (.ref c_Space) "__setattr__" = some (some (.builtin "object.__setattr__")))
    (mk_Space : PySem.W.makesIn K c_Space = true)
    (kc_Space : PySem.W.keepIn K (.ref c_Space) = true)
    (na_Space_first : PySem.W.findIn K (.ref c_Space) "_first" = some none)
    (na_Space_lowest : PySem.W.findIn K (.ref c_Space) "_lowest" = some none)
    (na_Space_rows : PySem.W.findIn K (.ref c_Space) "_rows" = some none)
    (na_Space_states : PySem.W.findIn K (.ref c_Space) "_states" = some none)
    (pg_Store : PySem.W.plainGet K c_Store Str.empty = true)
    (hd_Store : PySem.W.hasDictIn K c_Store = true)
    (po_Store : PySem.W.plainOver K c_Store = true)
    (sa_Store : PySem.W.findIn K (.ref c_Store) "__setattr__" = some (some (.builtin "object.__setattr__")))
    (mk_Store : PySem.W.makesIn K c_Store = true)
    (kc_Store : PySem.W.keepIn K (.ref c_Store) = true)
    (na_Store_blocks : PySem.W.findIn K (.ref c_Store) "_blocks" = some none)
    (na_Store_images : PySem.W.findIn K (.ref c_Store) "_images" = some none)
    (na_Store_made : PySem.W.findIn K (.ref c_Store) "_made" = some none)
    (na_Store_memory : PySem.W.findIn K (.ref c_Store) "_memory" = some none)
    (na_Store_spaces : PySem.W.findIn K (.ref c_Store) "_spaces" = some none)
    (na_Store_data : PySem.W.findIn K (.ref c_Store) "data" = some none)
    (na_Store_epoch : PySem.W.findIn K (.ref c_Store) "epoch" = some none)
    (na_Store_members : PySem.W.findIn K (.ref c_Store) "members" = some none)
    (na_Store_parity : PySem.W.findIn K (.ref c_Store) "parity" = some none)
    (na_Store_rows : PySem.W.findIn K (.ref c_Store) "rows" = some none)
    (a_PoolError : PySem.W.nsIn K mainGlobals "PoolError" = some (some (.ref c_PoolError)))
    (x_PoolError : PySem.W.excIn K c_PoolError [.type "ValueError", .type "Exception", .type "BaseException", .type "object"] "ValueError.__new__" = true)
    (k_PoolError : PySem.W.keepIn K (.ref c_PoolError) = true)
    (b_PoolError : PySem.W.subIn K (.ref c_PoolError) (.type "BaseException") = some true)
    (t_PoolError : PySem.W.typeIn K (.ref c_PoolError) = some (.type "type"))
    (E1_PoolError : PySem.W.findIn K (.ref c_PoolError) "__getattribute__" = some (some (.builtin "BaseException.__getattribute__")))
    (E2_PoolError : PySem.W.findIn K (.ref c_PoolError) "__getattr__" = some none)
    (E3_PoolError : PySem.W.hasDictIn K c_PoolError = true)
    (E4_PoolError : PySem.W.findIn K (.ref c_PoolError) "__class__" = some (some (.builtin "object.__class__")))
    (s_PoolError : PySem.W.subIn K (.ref c_PoolError) (.ref c_PoolError) = some true)
    (E5_PoolError : PySem.W.mroIn K c_PoolError (.type "object") = some true)
    (a_InvalidArgument : PySem.W.nsIn K mainGlobals "InvalidArgument" = some (some (.ref c_InvalidArgument)))
    (x_InvalidArgument : PySem.W.excIn K c_InvalidArgument [.type "ValueError", .type "Exception", .type "BaseException", .type "object"] "ValueError.__new__" = true)
    (k_InvalidArgument : PySem.W.keepIn K (.ref c_InvalidArgument) = true)
    (b_InvalidArgument : PySem.W.subIn K (.ref c_InvalidArgument) (.type "BaseException") = some true)
    (t_InvalidArgument : PySem.W.typeIn K (.ref c_InvalidArgument) = some (.type "type"))
    (E1_InvalidArgument : PySem.W.findIn K (.ref c_InvalidArgument) "__getattribute__" = some (some (.builtin "BaseException.__getattribute__")))
    (E2_InvalidArgument : PySem.W.findIn K (.ref c_InvalidArgument) "__getattr__" = some none)
    (E3_InvalidArgument : PySem.W.hasDictIn K c_InvalidArgument = true)
    (E4_InvalidArgument : PySem.W.findIn K (.ref c_InvalidArgument) "__class__" = some (some (.builtin "object.__class__")))
    (s_InvalidArgument : PySem.W.subIn K (.ref c_InvalidArgument) (.ref c_InvalidArgument) = some true)
    (E5_InvalidArgument : PySem.W.mroIn K c_InvalidArgument (.type "object") = some true)
    (a_NotEnoughPieces : PySem.W.nsIn K mainGlobals "NotEnoughPieces" = some (some (.ref c_NotEnoughPieces)))
    (x_NotEnoughPieces : PySem.W.excIn K c_NotEnoughPieces [.type "ValueError", .type "Exception", .type "BaseException", .type "object"] "ValueError.__new__" = true)
    (k_NotEnoughPieces : PySem.W.keepIn K (.ref c_NotEnoughPieces) = true)
    (b_NotEnoughPieces : PySem.W.subIn K (.ref c_NotEnoughPieces) (.type "BaseException") = some true)
    (t_NotEnoughPieces : PySem.W.typeIn K (.ref c_NotEnoughPieces) = some (.type "type"))
    (E1_NotEnoughPieces : PySem.W.findIn K (.ref c_NotEnoughPieces) "__getattribute__" = some (some (.builtin "BaseException.__getattribute__")))
    (E2_NotEnoughPieces : PySem.W.findIn K (.ref c_NotEnoughPieces) "__getattr__" = some none)
    (E3_NotEnoughPieces : PySem.W.hasDictIn K c_NotEnoughPieces = true)
    (E4_NotEnoughPieces : PySem.W.findIn K (.ref c_NotEnoughPieces) "__class__" = some (some (.builtin "object.__class__")))
    (s_NotEnoughPieces : PySem.W.subIn K (.ref c_NotEnoughPieces) (.ref c_NotEnoughPieces) = some true)
    (E5_NotEnoughPieces : PySem.W.mroIn K c_NotEnoughPieces (.type "object") = some true)
    (a_NoSpace : PySem.W.nsIn K mainGlobals "NoSpace" = some (some (.ref c_NoSpace)))
    (x_NoSpace : PySem.W.excIn K c_NoSpace [.type "ValueError", .type "Exception", .type "BaseException", .type "object"] "ValueError.__new__" = true)
    (k_NoSpace : PySem.W.keepIn K (.ref c_NoSpace) = true)
    (b_NoSpace : PySem.W.subIn K (.ref c_NoSpace) (.type "BaseException") = some true)
    (t_NoSpace : PySem.W.typeIn K (.ref c_NoSpace) = some (.type "type"))
    (E1_NoSpace : PySem.W.findIn K (.ref c_NoSpace) "__getattribute__" = some (some (.builtin "BaseException.__getattribute__")))
    (E2_NoSpace : PySem.W.findIn K (.ref c_NoSpace) "__getattr__" = some none)
    (E3_NoSpace : PySem.W.hasDictIn K c_NoSpace = true)
    (E4_NoSpace : PySem.W.findIn K (.ref c_NoSpace) "__class__" = some (some (.builtin "object.__class__")))
    (s_NoSpace : PySem.W.subIn K (.ref c_NoSpace) (.ref c_NoSpace) = some true)
    (E5_NoSpace : PySem.W.mroIn K c_NoSpace (.type "object") = some true)
    (a_NotEnoughDisks : PySem.W.nsIn K mainGlobals "NotEnoughDisks" = some (some (.ref c_NotEnoughDisks)))
    (x_NotEnoughDisks : PySem.W.excIn K c_NotEnoughDisks [.type "ValueError", .type "Exception", .type "BaseException", .type "object"] "ValueError.__new__" = true)
    (k_NotEnoughDisks : PySem.W.keepIn K (.ref c_NotEnoughDisks) = true)
    (b_NotEnoughDisks : PySem.W.subIn K (.ref c_NotEnoughDisks) (.type "BaseException") = some true)
    (t_NotEnoughDisks : PySem.W.typeIn K (.ref c_NotEnoughDisks) = some (.type "type"))
    (E1_NotEnoughDisks : PySem.W.findIn K (.ref c_NotEnoughDisks) "__getattribute__" = some (some (.builtin "BaseException.__getattribute__")))
    (E2_NotEnoughDisks : PySem.W.findIn K (.ref c_NotEnoughDisks) "__getattr__" = some none)
    (E3_NotEnoughDisks : PySem.W.hasDictIn K c_NotEnoughDisks = true)
    (E4_NotEnoughDisks : PySem.W.findIn K (.ref c_NotEnoughDisks) "__class__" = some (some (.builtin "object.__class__")))
    (s_NotEnoughDisks : PySem.W.subIn K (.ref c_NotEnoughDisks) (.ref c_NotEnoughDisks) = some true)
    (E5_NotEnoughDisks : PySem.W.mroIn K c_NotEnoughDisks (.type "object") = some true)
    (a_Damaged : PySem.W.nsIn K mainGlobals "Damaged" = some (some (.ref c_Damaged)))
    (x_Damaged : PySem.W.excIn K c_Damaged [.type "ValueError", .type "Exception", .type "BaseException", .type "object"] "ValueError.__new__" = true)
    (k_Damaged : PySem.W.keepIn K (.ref c_Damaged) = true)
    (b_Damaged : PySem.W.subIn K (.ref c_Damaged) (.type "BaseException") = some true)
    (t_Damaged : PySem.W.typeIn K (.ref c_Damaged) = some (.type "type"))
    (E1_Damaged : PySem.W.findIn K (.ref c_Damaged) "__getattribute__" = some (some (.builtin "BaseException.__getattribute__")))
    (E2_Damaged : PySem.W.findIn K (.ref c_Damaged) "__getattr__" = some none)
    (E3_Damaged : PySem.W.hasDictIn K c_Damaged = true)
    (E4_Damaged : PySem.W.findIn K (.ref c_Damaged) "__class__" = some (some (.builtin "object.__class__")))
    (s_Damaged : PySem.W.subIn K (.ref c_Damaged) (.ref c_Damaged) = some true)
    (E5_Damaged : PySem.W.mroIn K c_Damaged (.type "object") = some true)
    (E6 : PySem.W.specialIn K (.builtin "object.__class__") "__get__" = some (some (.builtin "getset_descriptor.__get__")))
    (E7 : PySem.W.takesIn K (.builtin "object.__class__") = some true)
    (u_InvalidArgument_PoolError : PySem.W.subIn K (.ref c_InvalidArgument) (.ref c_PoolError) = some true)
    (u_NotEnoughDisks_PoolError : PySem.W.subIn K (.ref c_NotEnoughDisks) (.ref c_PoolError) = some true) :
    ∃ fd : FuncData, (∀ (s : Shared) (v : Value), BindsTo s fd ⟨[v], []⟩ [("script", v)]) ∧ ∀ base : Heap, K.In base → base.Ns mainGlobals mg → FnOk l.prog w K mg base CX0 11 fa fd ["script"] (sp_law0 K) := by
  have e := hfa.symm.trans (PySem.W.mg_of X G a_law)
  cases e
  have F_is_present := fun_mk (st := s_is_present) l_is_present q_is_present k_is_present
  have d_is_present := F_is_present.binds (ps := ["images", "disk"]) fun _ _ _ _ _ _ us hl => match us, hl with | [_, _], _ => rfl
  have F_sector_at := fun_mk (st := s_sector_at) l_sector_at q_sector_at k_sector_at
  have d_sector_at := F_sector_at.binds (ps := ["images", "disk", "row"]) fun _ _ _ _ _ _ us hl => match us, hl with | [_, _, _], _ => rfl
  have F_inverse := fun_mk (st := s_inverse) l_inverse q_inverse k_inverse
  have d_inverse := F_inverse.binds (ps := ["a"]) fun _ _ _ _ _ _ us hl => match us, hl with | [_], _ => rfl
  have F_weight := fun_mk (st := s_weight) l_weight q_weight k_weight
  have d_weight := F_weight.binds (ps := ["place", "others", "x"]) fun _ _ _ _ _ _ us hl => match us, hl with | [_, _, _], _ => rfl
  have F_weights := fun_mk (st := s_weights) l_weights q_weights k_weights
  have d_weights := F_weights.binds (ps := ["places", "x"]) fun _ _ _ _ _ _ us hl => match us, hl with | [_, _], _ => rfl
  have F_check_lengths := fun_mk (st := s_check_lengths) l_check_lengths q_check_lengths k_check_lengths
  have d_check_lengths := F_check_lengths.binds (ps := ["pieces"]) fun _ _ _ _ _ _ us hl => match us, hl with | [_], _ => rfl
  have F_piece_at := fun_mk (st := s_piece_at) l_piece_at q_piece_at k_piece_at
  have d_piece_at := F_piece_at.binds (ps := ["known", "places", "number"]) fun _ _ _ _ _ _ us hl => match us, hl with | [_, _, _], _ => rfl
  have F_encode := fun_mk (st := s_encode) l_encode q_encode k_encode
  have d_encode := F_encode.binds (ps := ["pieces", "parity"]) fun _ _ _ _ _ _ us hl => match us, hl with | [_, _], _ => rfl
  have F_present_numbers := fun_mk (st := s_present_numbers) l_present_numbers q_present_numbers k_present_numbers
  have d_present_numbers := F_present_numbers.binds (ps := ["pieces", "data"]) fun _ _ _ _ _ _ us hl => match us, hl with | [_, _], _ => rfl
  have F_recover := fun_mk (st := s_recover) l_recover q_recover k_recover
  have d_recover := F_recover.binds (ps := ["pieces", "data"]) fun _ _ _ _ _ _ us hl => match us, hl with | [_, _], _ => rfl
  have F_check_words := fun_mk (st := s_check_words) l_check_words q_check_words k_check_words
  have d_check_words := F_check_words.binds (ps := ["words"]) fun _ _ _ _ _ _ us hl => match us, hl with | [_], _ => rfl
  have F_is_place := fun_mk (st := s_is_place) l_is_place q_is_place k_is_place
  have d_is_place := F_is_place.binds (ps := ["kind", "disk", "row"]) fun _ _ _ _ _ _ us hl => match us, hl with | [_, _, _], _ => rfl
  have F_seal := fun_mk (st := s_seal) l_seal q_seal k_seal
  have d_seal := F_seal.binds (ps := ["kind", "disk", "row", "stamp", "payload"]) fun _ _ _ _ _ _ us hl => match us, hl with | [_, _, _, _, _], _ => rfl
  have F_unseal := fun_mk (st := s_unseal) l_unseal q_unseal k_unseal
  have d_unseal := F_unseal.binds (ps := ["sector", "kind", "disk", "row"]) fun _ _ _ _ _ _ us hl => match us, hl with | [_, _, _, _], _ => rfl
  have F_is_whole := fun_mk (st := s_is_whole) l_is_whole q_is_whole k_is_whole
  have d_is_whole := F_is_whole.binds (ps := ["sector"]) fun _ _ _ _ _ _ us hl => match us, hl with | [_], _ => rfl
  have F_choose_disks := fun_mk (st := s_choose_disks) l_choose_disks q_choose_disks k_choose_disks
  have d_choose_disks := F_choose_disks.binds (ps := ["candidates", "width"]) fun _ _ _ _ _ _ us hl => match us, hl with | [_, _], _ => rfl
  have F_piece_size := fun_mk (st := s_piece_size) l_piece_size q_piece_size k_piece_size
  have d_piece_size := F_piece_size.binds (ps := ["length", "data"]) fun _ _ _ _ _ _ us hl => match us, hl with | [_, _], _ => rfl
  have F_data_pieces := fun_mk (st := s_data_pieces) l_data_pieces q_data_pieces k_data_pieces
  have d_data_pieces := F_data_pieces.binds (ps := ["words", "data"]) fun _ _ _ _ _ _ us hl => match us, hl with | [_, _], _ => rfl
  have F_piece_requests := fun_mk (st := s_piece_requests) l_piece_requests q_piece_requests k_piece_requests
  have d_piece_requests := F_piece_requests.binds (ps := ["images", "places", "stamp", "pieces", "numbers"]) fun _ _ _ _ _ _ us hl => match us, hl with | [_, _, _, _, _], _ => rfl
  have F_write_stripe := fun_mk (st := s_write_stripe) l_write_stripe q_write_stripe k_write_stripe
  have d_write_stripe := F_write_stripe.binds (ps := ["images", "places", "stamp", "words", "data"]) fun _ _ _ _ _ _ us hl => match us, hl with | [_, _, _, _, _], _ => rfl
  have F_good_piece := fun_mk (st := s_good_piece) l_good_piece q_good_piece k_good_piece
  have d_good_piece := F_good_piece.binds (ps := ["images", "place", "stamp", "size"]) fun _ _ _ _ _ _ us hl => match us, hl with | [_, _, _, _], _ => rfl
  have F_read_stripe := fun_mk (st := s_read_stripe) l_read_stripe q_read_stripe k_read_stripe
  have d_read_stripe := F_read_stripe.binds (ps := ["images", "places", "stamp", "length", "data"]) fun _ _ _ _ _ _ us hl => match us, hl with | [_, _, _, _, _], _ => rfl
  have F_law_pot := fun_mk (st := s_law_pot) l_law_pot q_law_pot k_law_pot
  have d_law_pot := F_law_pot.binds (ps := ["script"]) fun _ _ _ _ _ _ us hl => match us, hl with | [_], _ => rfl
  have F_law_next := fun_mk (st := s_law_next) l_law_next q_law_next k_law_next
  have d_law_next := F_law_next.binds (ps := ["pot", "limit"]) fun _ _ _ _ _ _ us hl => match us, hl with | [_, _], _ => rfl
  have F_law_add := fun_mk (st := s_law_add) l_law_add q_law_add k_law_add
  have d_law_add := F_law_add.binds (ps := ["store", "disk"]) fun _ _ _ _ _ _ us hl => match us, hl with | [_, _], _ => rfl
  have F_law_drop := fun_mk (st := s_law_drop) l_law_drop q_law_drop k_law_drop
  have d_law_drop := F_law_drop.binds (ps := ["store", "disk"]) fun _ _ _ _ _ _ us hl => match us, hl with | [_, _], _ => rfl
  have F_law_put := fun_mk (st := s_law_put) l_law_put q_law_put k_law_put
  have d_law_put := F_law_put.binds (ps := ["store"]) fun _ _ _ _ _ _ us hl => match us, hl with | [_], _ => rfl
  have F_law_looks_right := fun_mk (st := s_law_looks_right) l_law_looks_right q_law_looks_right k_law_looks_right
  have d_law_looks_right := F_law_looks_right.binds (ps := ["store", "used"]) fun _ _ _ _ _ _ us hl => match us, hl with | [_, _], _ => rfl
  have F_law := fun_mk (st := s_law) l_law q_law k_law
  have d_law := F_law.binds (ps := ["script"]) fun _ _ _ _ _ _ us hl => match us, hl with | [_], _ => rfl
  have F_Space_init := fun_mk (st := s_Space_init) l_Space_init q_Space_init k_Space_init
  have d_Space_init := F_Space_init.binds (ps := ["self", "rows", "first"]) fun _ _ _ _ _ _ us hl => match us, hl with | [_, _, _], _ => rfl
  have F_Space_take := fun_mk (st := s_Space_take) l_Space_take q_Space_take k_Space_take
  have d_Space_take := F_Space_take.binds (ps := ["self"]) fun _ _ _ _ _ _ us hl => match us, hl with | [_], _ => rfl
  have F_Space_give := fun_mk (st := s_Space_give) l_Space_give q_Space_give k_Space_give
  have d_Space_give := F_Space_give.binds (ps := ["self", "row"]) fun _ _ _ _ _ _ us hl => match us, hl with | [_, _], _ => rfl
  have F_Space_settle := fun_mk (st := s_Space_settle) l_Space_settle q_Space_settle k_Space_settle
  have d_Space_settle := F_Space_settle.binds (ps := ["self"]) fun _ _ _ _ _ _ us hl => match us, hl with | [_], _ => rfl
  have F_Space_free_count := fun_mk (st := s_Space_free_count) l_Space_free_count q_Space_free_count k_Space_free_count
  have d_Space_free_count := F_Space_free_count.binds (ps := ["self"]) fun _ _ _ _ _ _ us hl => match us, hl with | [_], _ => rfl
  have F_Space_used_rows := fun_mk (st := s_Space_used_rows) l_Space_used_rows q_Space_used_rows k_Space_used_rows
  have d_Space_used_rows := F_Space_used_rows.binds (ps := ["self"]) fun _ _ _ _ _ _ us hl => match us, hl with | [_], _ => rfl
  have F_Space_waiting_rows := fun_mk (st := s_Space_waiting_rows) l_Space_waiting_rows q_Space_waiting_rows k_Space_waiting_rows
  have d_Space_waiting_rows := F_Space_waiting_rows.binds (ps := ["self"]) fun _ _ _ _ _ _ us hl => match us, hl with | [_], _ => rfl
  have F_Store_init := fun_mk (st := s_Store_init) l_Store_init q_Store_init k_Store_init
  have d_Store_init := kbn_mk (ps := ["self", "data", "parity", "rows", "members", "epoch"]) (n := 1) (ks := ["data", "parity", "rows", "members", "epoch"]) F_Store_init fun _ _ _ _ _ _ us ws l1 l2 => match us, l1, ws, l2 with | [_], _, [_, _, _, _, _], _ => rfl
  have F_Store_look := fun_mk (st := s_Store_look) l_Store_look q_Store_look k_Store_look
  have d_Store_look := F_Store_look.binds (ps := ["self", "images"]) fun _ _ _ _ _ _ us hl => match us, hl with | [_, _], _ => rfl
  have F_Store_put := fun_mk (st := s_Store_put) l_Store_put q_Store_put k_Store_put
  have kb_Store_put := kbn_mk (ps := ["self", "words", "avoid"]) (n := 2) (ks := ["avoid"]) F_Store_put fun _ _ _ _ _ _ us ws l1 l2 => match us, l1, ws, l2 with | [_, _], _, [_], _ => rfl
  have d_Store_put := kwd_one (ps := ["self", "words", "avoid"]) (n := 2) l_Store_put kw_Store_put rfl fun us v l1 => match us, l1 with | [_, _], _ => ⟨_, _, _, _, _, _, rfl, rfl, rfl⟩
  have e_Store_put_ := ktp_of [] le_Store_put (by decide)
  have F_Store_get := fun_mk (st := s_Store_get) l_Store_get q_Store_get k_Store_get
  have d_Store_get := F_Store_get.binds (ps := ["self", "pointer"]) fun _ _ _ _ _ _ us hl => match us, hl with | [_, _], _ => rfl
  have F_Store_commit := fun_mk (st := s_Store_commit) l_Store_commit q_Store_commit k_Store_commit
  have d_Store_commit := F_Store_commit.binds (ps := ["self", "live"]) fun _ _ _ _ _ _ us hl => match us, hl with | [_, _], _ => rfl
  have F_Store_forget := fun_mk (st := s_Store_forget) l_Store_forget q_Store_forget k_Store_forget
  have d_Store_forget := F_Store_forget.binds (ps := ["self", "pointers"]) fun _ _ _ _ _ _ us hl => match us, hl with | [_, _], _ => rfl
  have F_Store_add_member := fun_mk (st := s_Store_add_member) l_Store_add_member q_Store_add_member k_Store_add_member
  have d_Store_add_member := F_Store_add_member.binds (ps := ["self", "disk"]) fun _ _ _ _ _ _ us hl => match us, hl with | [_, _], _ => rfl
  have F_Store_drop_member := fun_mk (st := s_Store_drop_member) l_Store_drop_member q_Store_drop_member k_Store_drop_member
  have d_Store_drop_member := F_Store_drop_member.binds (ps := ["self", "disk"]) fun _ _ _ _ _ _ us hl => match us, hl with | [_, _], _ => rfl
  have F_Store_free_counts := fun_mk (st := s_Store_free_counts) l_Store_free_counts q_Store_free_counts k_Store_free_counts
  have d_Store_free_counts := F_Store_free_counts.binds (ps := ["self"]) fun _ _ _ _ _ _ us hl => match us, hl with | [_], _ => rfl
  have T : Txt w K mg ⟨f_is_present, _, f_sector_at, _, f_inverse, _, f_weight, _, f_weights, _, f_check_lengths, _, f_piece_at, _, f_encode, _, f_present_numbers, _, f_recover, _, f_check_words, _, f_is_place, _, f_seal, _, f_unseal, _, f_is_whole, _, f_choose_disks, _, f_piece_size, _, f_data_pieces, _, f_piece_requests, _, f_write_stripe, _, f_good_piece, _, f_read_stripe, _, f_law_pot, _, f_law_next, _, f_law_add, _, f_law_drop, _, f_law_put, _, f_law_looks_right, _, fa, _, f_Space_init, _, f_Space_take, _, f_Space_give, _, f_Space_settle, _, f_Space_free_count, _, f_Space_used_rows, _, f_Space_waiting_rows, _, f_Store_init, _, f_Store_look, _, f_Store_put, _, f_Store_get, _, f_Store_commit, _, f_Store_forget, _, f_Store_add_member, _, f_Store_drop_member, _, f_Store_free_counts, _, c_PoolError, c_InvalidArgument, c_NotEnoughPieces, c_NoSpace, c_NotEnoughDisks, c_Damaged, c_Space, c_Store, e_Store_put, w⟩ := {
    F_is_present := F_is_present, g_is_present := PySem.W.mg_of X G a_is_present, d_is_present := d_is_present,
    F_sector_at := F_sector_at, g_sector_at := PySem.W.mg_of X G a_sector_at, d_sector_at := d_sector_at,
    F_inverse := F_inverse, g_inverse := PySem.W.mg_of X G a_inverse, d_inverse := d_inverse,
    F_weight := F_weight, g_weight := PySem.W.mg_of X G a_weight, d_weight := d_weight,
    F_weights := F_weights, g_weights := PySem.W.mg_of X G a_weights, d_weights := d_weights,
    F_check_lengths := F_check_lengths, g_check_lengths := PySem.W.mg_of X G a_check_lengths, d_check_lengths := d_check_lengths,
    F_piece_at := F_piece_at, g_piece_at := PySem.W.mg_of X G a_piece_at, d_piece_at := d_piece_at,
    F_encode := F_encode, g_encode := PySem.W.mg_of X G a_encode, d_encode := d_encode,
    F_present_numbers := F_present_numbers, g_present_numbers := PySem.W.mg_of X G a_present_numbers, d_present_numbers := d_present_numbers,
    F_recover := F_recover, g_recover := PySem.W.mg_of X G a_recover, d_recover := d_recover,
    F_check_words := F_check_words, g_check_words := PySem.W.mg_of X G a_check_words, d_check_words := d_check_words,
    F_is_place := F_is_place, g_is_place := PySem.W.mg_of X G a_is_place, d_is_place := d_is_place,
    F_seal := F_seal, g_seal := PySem.W.mg_of X G a_seal, d_seal := d_seal,
    F_unseal := F_unseal, g_unseal := PySem.W.mg_of X G a_unseal, d_unseal := d_unseal,
    F_is_whole := F_is_whole, g_is_whole := PySem.W.mg_of X G a_is_whole, d_is_whole := d_is_whole,
    F_choose_disks := F_choose_disks, g_choose_disks := PySem.W.mg_of X G a_choose_disks, d_choose_disks := d_choose_disks,
    F_piece_size := F_piece_size, g_piece_size := PySem.W.mg_of X G a_piece_size, d_piece_size := d_piece_size,
    F_data_pieces := F_data_pieces, g_data_pieces := PySem.W.mg_of X G a_data_pieces, d_data_pieces := d_data_pieces,
    F_piece_requests := F_piece_requests, g_piece_requests := PySem.W.mg_of X G a_piece_requests, d_piece_requests := d_piece_requests,
    F_write_stripe := F_write_stripe, g_write_stripe := PySem.W.mg_of X G a_write_stripe, d_write_stripe := d_write_stripe,
    F_good_piece := F_good_piece, g_good_piece := PySem.W.mg_of X G a_good_piece, d_good_piece := d_good_piece,
    F_read_stripe := F_read_stripe, g_read_stripe := PySem.W.mg_of X G a_read_stripe, d_read_stripe := d_read_stripe,
    F_law_pot := F_law_pot, g_law_pot := PySem.W.mg_of X G a_law_pot, d_law_pot := d_law_pot,
    F_law_next := F_law_next, g_law_next := PySem.W.mg_of X G a_law_next, d_law_next := d_law_next,
    F_law_add := F_law_add, g_law_add := PySem.W.mg_of X G a_law_add, d_law_add := d_law_add,
    F_law_drop := F_law_drop, g_law_drop := PySem.W.mg_of X G a_law_drop, d_law_drop := d_law_drop,
    F_law_put := F_law_put, g_law_put := PySem.W.mg_of X G a_law_put, d_law_put := d_law_put,
    F_law_looks_right := F_law_looks_right, g_law_looks_right := PySem.W.mg_of X G a_law_looks_right, d_law_looks_right := d_law_looks_right,
    F_law := F_law, g_law := PySem.W.mg_of X G a_law, d_law := d_law,
    F_Space_init := F_Space_init, mk_Space := ⟨mk_Space, a_Space_init, i_Space_init, kc_Space⟩, d_Space_init := d_Space_init,
    F_Space_take := F_Space_take, m_Space_take := ⟨a_Space_take, i_Space_take, k_Space_take⟩, d_Space_take := d_Space_take,
    F_Space_give := F_Space_give, m_Space_give := ⟨a_Space_give, i_Space_give, k_Space_give⟩, d_Space_give := d_Space_give,
    F_Space_settle := F_Space_settle, m_Space_settle := ⟨a_Space_settle, i_Space_settle, k_Space_settle⟩, d_Space_settle := d_Space_settle,
    F_Space_free_count := F_Space_free_count, m_Space_free_count := ⟨a_Space_free_count, i_Space_free_count, k_Space_free_count⟩, d_Space_free_count := d_Space_free_count,
    F_Space_used_rows := F_Space_used_rows, m_Space_used_rows := ⟨a_Space_used_rows, i_Space_used_rows, k_Space_used_rows⟩, d_Space_used_rows := d_Space_used_rows,
    F_Space_waiting_rows := F_Space_waiting_rows, m_Space_waiting_rows := ⟨a_Space_waiting_rows, i_Space_waiting_rows, k_Space_waiting_rows⟩, d_Space_waiting_rows := d_Space_waiting_rows,
    F_Store_init := F_Store_init, mk_Store := ⟨mk_Store, a_Store_init, i_Store_init, kc_Store⟩, d_Store_init := d_Store_init,
    F_Store_look := F_Store_look, m_Store_look := ⟨a_Store_look, i_Store_look, k_Store_look⟩, d_Store_look := d_Store_look,
    F_Store_put := F_Store_put, m_Store_put := ⟨a_Store_put, i_Store_put, k_Store_put⟩, d_Store_put := d_Store_put, kb_Store_put := kb_Store_put, e_Store_put := e_Store_put_,
    F_Store_get := F_Store_get, m_Store_get := ⟨a_Store_get, i_Store_get, k_Store_get⟩, d_Store_get := d_Store_get,
    F_Store_commit := F_Store_commit, m_Store_commit := ⟨a_Store_commit, i_Store_commit, k_Store_commit⟩, d_Store_commit := d_Store_commit,
    F_Store_forget := F_Store_forget, m_Store_forget := ⟨a_Store_forget, i_Store_forget, k_Store_forget⟩, d_Store_forget := d_Store_forget,
    F_Store_add_member := F_Store_add_member, m_Store_add_member := ⟨a_Store_add_member, i_Store_add_member, k_Store_add_member⟩, d_Store_add_member := d_Store_add_member,
    F_Store_drop_member := F_Store_drop_member, m_Store_drop_member := ⟨a_Store_drop_member, i_Store_drop_member, k_Store_drop_member⟩, d_Store_drop_member := d_Store_drop_member,
    F_Store_free_counts := F_Store_free_counts, m_Store_free_counts := ⟨a_Store_free_counts, i_Store_free_counts, k_Store_free_counts⟩, d_Store_free_counts := d_Store_free_counts,
    g_Space := PySem.W.mg_of X G a_Space, cl_Space := ⟨pg_Space, hd_Space, po_Space, sa_Space⟩,
    na_Space_first := na_Space_first,
    na_Space_lowest := na_Space_lowest,
    na_Space_rows := na_Space_rows,
    na_Space_states := na_Space_states,
    g_Store := PySem.W.mg_of X G a_Store, cl_Store := ⟨pg_Store, hd_Store, po_Store, sa_Store⟩,
    na_Store_blocks := na_Store_blocks,
    na_Store_images := na_Store_images,
    na_Store_made := na_Store_made,
    na_Store_memory := na_Store_memory,
    na_Store_spaces := na_Store_spaces,
    na_Store_data := na_Store_data,
    na_Store_epoch := na_Store_epoch,
    na_Store_members := na_Store_members,
    na_Store_parity := na_Store_parity,
    na_Store_rows := na_Store_rows,
    g_PRIME := ⟨_, PySem.W.mg_of X G a_PRIME, ⟨_, rfl⟩⟩,
    g_MAX_PIECES := ⟨_, PySem.W.mg_of X G a_MAX_PIECES, ⟨_, rfl⟩⟩,
    g_MAX_DISKS := ⟨_, PySem.W.mg_of X G a_MAX_DISKS, ⟨_, rfl⟩⟩,
    g_MAX_PAYLOAD := ⟨_, PySem.W.mg_of X G a_MAX_PAYLOAD, ⟨_, rfl⟩⟩,
    g_MAX_ROWS := ⟨_, PySem.W.mg_of X G a_MAX_ROWS, ⟨_, rfl⟩⟩,
    g_FIRST_ROW := ⟨_, PySem.W.mg_of X G a_FIRST_ROW, ⟨_, rfl⟩⟩,
    g_NEW := ⟨_, PySem.W.mg_of X G a_NEW, ⟨_, rfl⟩⟩,
    g_OLD := ⟨_, PySem.W.mg_of X G a_OLD, ⟨_, rfl⟩⟩,
    g_WAITING := ⟨_, PySem.W.mg_of X G a_WAITING, ⟨_, rfl⟩⟩,
    g_LABEL := ⟨_, PySem.W.mg_of X G a_LABEL, ⟨_, rfl⟩⟩,
    g_PIECE := ⟨_, PySem.W.mg_of X G a_PIECE, ⟨_, rfl⟩⟩,
    g_HEADER_WORDS := ⟨_, PySem.W.mg_of X G a_HEADER_WORDS, ⟨_, rfl⟩⟩,
    g_CHECK_WORDS := ⟨_, PySem.W.mg_of X G a_CHECK_WORDS, ⟨_, rfl⟩⟩,
    hw := rfl,
    n_len := PySem.W.mg_none_of X G n_len,
    n_enumerate := PySem.W.mg_none_of X G n_enumerate,
    n_sum := PySem.W.mg_none_of X G n_sum,
    n_zip := PySem.W.mg_none_of X G n_zip,
    n_list := PySem.W.mg_none_of X G n_list,
    n_range := PySem.W.mg_none_of X G n_range,
    n_tuple := PySem.W.mg_none_of X G n_tuple,
    n_min := PySem.W.mg_none_of X G n_min,
    n_max := PySem.W.mg_none_of X G n_max,
    n_sorted := PySem.W.mg_none_of X G n_sorted,
    n_int := PySem.W.mg_none_of X G n_int,
    n_abs := PySem.W.mg_none_of X G n_abs,
    n_isinstance := PySem.W.mg_none_of X G n_isinstance,
    n_dict := PySem.W.mg_none_of X G n_dict,
    n_all := PySem.W.mg_none_of X G n_all,
    g_PoolError := PySem.W.mg_of X G a_PoolError, x_PoolError := x_PoolError, k_PoolError := k_PoolError, b_PoolError := b_PoolError, t_PoolError := t_PoolError, E_PoolError := ⟨E1_PoolError, E2_PoolError, b_PoolError, E3_PoolError, E4_PoolError, E6, E7, E5_PoolError⟩,
    g_InvalidArgument := PySem.W.mg_of X G a_InvalidArgument, x_InvalidArgument := x_InvalidArgument, k_InvalidArgument := k_InvalidArgument, b_InvalidArgument := b_InvalidArgument, t_InvalidArgument := t_InvalidArgument, E_InvalidArgument := ⟨E1_InvalidArgument, E2_InvalidArgument, b_InvalidArgument, E3_InvalidArgument, E4_InvalidArgument, E6, E7, E5_InvalidArgument⟩,
    g_NotEnoughPieces := PySem.W.mg_of X G a_NotEnoughPieces, x_NotEnoughPieces := x_NotEnoughPieces, k_NotEnoughPieces := k_NotEnoughPieces, b_NotEnoughPieces := b_NotEnoughPieces, t_NotEnoughPieces := t_NotEnoughPieces, E_NotEnoughPieces := ⟨E1_NotEnoughPieces, E2_NotEnoughPieces, b_NotEnoughPieces, E3_NotEnoughPieces, E4_NotEnoughPieces, E6, E7, E5_NotEnoughPieces⟩,
    g_NoSpace := PySem.W.mg_of X G a_NoSpace, x_NoSpace := x_NoSpace, k_NoSpace := k_NoSpace, b_NoSpace := b_NoSpace, t_NoSpace := t_NoSpace, E_NoSpace := ⟨E1_NoSpace, E2_NoSpace, b_NoSpace, E3_NoSpace, E4_NoSpace, E6, E7, E5_NoSpace⟩,
    g_NotEnoughDisks := PySem.W.mg_of X G a_NotEnoughDisks, x_NotEnoughDisks := x_NotEnoughDisks, k_NotEnoughDisks := k_NotEnoughDisks, b_NotEnoughDisks := b_NotEnoughDisks, t_NotEnoughDisks := t_NotEnoughDisks, E_NotEnoughDisks := ⟨E1_NotEnoughDisks, E2_NotEnoughDisks, b_NotEnoughDisks, E3_NotEnoughDisks, E4_NotEnoughDisks, E6, E7, E5_NotEnoughDisks⟩,
    g_Damaged := PySem.W.mg_of X G a_Damaged, x_Damaged := x_Damaged, k_Damaged := k_Damaged, b_Damaged := b_Damaged, t_Damaged := t_Damaged, E_Damaged := ⟨E1_Damaged, E2_Damaged, b_Damaged, E3_Damaged, E4_Damaged, E6, E7, E5_Damaged⟩,
    u_InvalidArgument_PoolError := PySem.W.exm_ref b_PoolError E3_PoolError t_PoolError u_InvalidArgument_PoolError,
    u_NotEnoughDisks_PoolError := PySem.W.exm_ref b_PoolError E3_PoolError t_PoolError u_NotEnoughDisks_PoolError,
    i_InvalidArgument_InvalidArgument := kit_self,
    i_NotEnoughDisks_NotEnoughDisks := kit_self }
  exact ⟨PySem.W.fnOf "law" "law" (defArgs s_law) (defBody s_law) (defScope s_law) .none kV_law dc_law pm_law an_law cd_law ct_law, fun s v => .of_eq rfl, fun base _ _ => (ok_law T).imp fun vs H Q E h => h⟩
theorem walk {l : PySem.W.OpenLaw} {q : Program} {loose : List Str} {XP : (Str → Option Value) → Heap → Prop} {YP : World → Heap → Prop} {d : DefRec} {K : Params → PySem.W.Frag} (hn : l.most = some 63) (hdf : d.params.defaults = [])
    (hY : ∀ (w : World) (h : Heap), YP w h → (K w.params).In h)
    (F : ∀ (w : World) (mg : Str → Option Value) (fa : Addr) (h : Heap), (K w.params).In h → h.Ns mainGlobals mg → mg d.name = some (.ref fa) →
      ∃ fd : FuncData, (∀ (s : Shared) (u : Value), BindsTo s fd ⟨[u], []⟩ [("script", u)]) ∧ ∀ base : Heap, (K w.params).In base → base.Ns mainGlobals mg → FnOk l.prog w (K w.params) mg base CX0 11 fa fd ["script"] (sp_law0 (K w.params))) :
    PySem.W.WalkO q loose XP YP l.row.toRowW d [] (fun f vs => PySem.call f vs) :=
  L2.walk_of (n := 63) (k := 11) (x := "script") (CX := fun _ => CX0) (sp := fun w => sp_law0 (K w.params)) hn (by decide) hdf ⟨rfl, by decide, by decide⟩ hY F (fun _ _ a ns hl _ hS => ⟨a, ns, rfl, hS, hl, fun _ => rfl⟩) fun _ _ _ _ _ z => z
end PP
open PySem PySem.W PyProof.Rows
set_option maxRecDepth 100000 in
set_option maxHeartbeats 0 in
theorem PySem.Challenge.cw_paritypool_k30_members_holds : PySem.Challenge.rw_paritypool_k30_members.Holds := by
  w_on; o_law; k_head; (case hw => w_witness2)
  k_fill
  refine PP.walk (l := PySem.Challenge.rw_paritypool_k30_members) rfl rfl (fun w h Y => PySem.W.kIn_of Y) ?F
  case F =>
    intro w mg fa h KX G hmg
    refine' PP.all_mk KX G hmg ?a_Space ?a_Store ?a_is_present ?l_is_present ?q_is_present ?k_is_present ?a_sector_at ?l_sector_at ?q_sector_at ?k_sector_at ?a_inverse ?l_inverse ?q_inverse ?k_inverse ?a_weight ?l_weight ?q_weight ?k_weight ?a_weights ?l_weights ?q_weights ?k_weights ?a_check_lengths ?l_check_lengths ?q_check_lengths ?k_check_lengths ?a_piece_at ?l_piece_at ?q_piece_at ?k_piece_at ?a_encode ?l_encode ?q_encode ?k_encode ?a_present_numbers ?l_present_numbers ?q_present_numbers ?k_present_numbers ?a_recover ?l_recover ?q_recover ?k_recover ?a_check_words ?l_check_words ?q_check_words ?k_check_words ?a_is_place ?l_is_place ?q_is_place ?k_is_place ?a_seal ?l_seal ?q_seal ?k_seal ?a_unseal ?l_unseal ?q_unseal ?k_unseal ?a_is_whole ?l_is_whole ?q_is_whole ?k_is_whole ?a_choose_disks ?l_choose_disks ?q_choose_disks ?k_choose_disks ?a_piece_size ?l_piece_size ?q_piece_size ?k_piece_size ?a_data_pieces ?l_data_pieces ?q_data_pieces ?k_data_pieces ?a_piece_requests ?l_piece_requests ?q_piece_requests ?k_piece_requests ?a_write_stripe ?l_write_stripe ?q_write_stripe ?k_write_stripe ?a_good_piece ?l_good_piece ?q_good_piece ?k_good_piece ?a_read_stripe ?l_read_stripe ?q_read_stripe ?k_read_stripe ?a_law_pot ?l_law_pot ?q_law_pot ?k_law_pot ?a_law_next ?l_law_next ?q_law_next ?k_law_next ?a_law_add ?l_law_add ?q_law_add ?k_law_add ?a_law_drop ?l_law_drop ?q_law_drop ?k_law_drop ?a_law_put ?l_law_put ?q_law_put ?k_law_put ?a_law_looks_right ?l_law_looks_right ?q_law_looks_right ?k_law_looks_right ?a_law ?l_law ?q_law ?k_law ?a_Space_init ?i_Space_init ?l_Space_init ?q_Space_init ?k_Space_init ?a_Space_take ?i_Space_take ?l_Space_take ?q_Space_take ?k_Space_take ?a_Space_give ?i_Space_give ?l_Space_give ?q_Space_give ?k_Space_give ?a_Space_settle ?i_Space_settle ?l_Space_settle ?q_Space_settle ?k_Space_settle ?a_Space_free_count ?i_Space_free_count ?l_Space_free_count ?q_Space_free_count ?k_Space_free_count ?a_Space_used_rows ?i_Space_used_rows ?l_Space_used_rows ?q_Space_used_rows ?k_Space_used_rows ?a_Space_waiting_rows ?i_Space_waiting_rows ?l_Space_waiting_rows ?q_Space_waiting_rows ?k_Space_waiting_rows ?a_Store_init ?i_Store_init ?l_Store_init ?q_Store_init ?k_Store_init ?a_Store_look ?i_Store_look ?l_Store_look ?q_Store_look ?k_Store_look ?a_Store_put ?i_Store_put ?l_Store_put ?kw_Store_put ?le_Store_put ?q_Store_put ?k_Store_put ?a_Store_get ?i_Store_get ?l_Store_get ?q_Store_get ?k_Store_get ?a_Store_commit ?i_Store_commit ?l_Store_commit ?q_Store_commit ?k_Store_commit ?a_Store_forget ?i_Store_forget ?l_Store_forget ?q_Store_forget ?k_Store_forget ?a_Store_add_member ?i_Store_add_member ?l_Store_add_member ?q_Store_add_member ?k_Store_add_member ?a_Store_drop_member ?i_Store_drop_member ?l_Store_drop_member ?q_Store_drop_member ?k_Store_drop_member ?a_Store_free_counts ?i_Store_free_counts ?l_Store_free_counts ?q_Store_free_counts ?k_Store_free_counts ?a_PRIME ?a_MAX_PIECES ?a_MAX_DISKS ?a_MAX_PAYLOAD ?a_MAX_ROWS ?a_FIRST_ROW ?a_NEW ?a_OLD ?a_WAITING ?a_LABEL ?a_PIECE ?a_HEADER_WORDS ?a_CHECK_WORDS ?n_len ?n_enumerate ?n_sum ?n_zip ?n_list ?n_range ?n_tuple ?n_min ?n_max ?n_sorted ?n_int ?n_abs ?n_isinstance ?n_dict ?n_all ?pg_Space ?hd_Space ?po_Space ?sa_Space ?mk_Space ?kc_Space ?na_Space_first ?na_Space_lowest ?na_Space_rows ?na_Space_states ?pg_Store ?hd_Store ?po_Store ?sa_Store ?mk_Store ?kc_Store ?na_Store_blocks ?na_Store_images ?na_Store_made ?na_Store_memory ?na_Store_spaces ?na_Store_data ?na_Store_epoch ?na_Store_members ?na_Store_parity ?na_Store_rows ?a_PoolError ?x_PoolError ?k_PoolError ?b_PoolError ?t_PoolError ?E1_PoolError ?E2_PoolError ?E3_PoolError ?E4_PoolError ?s_PoolError ?E5_PoolError ?a_InvalidArgument ?x_InvalidArgument ?k_InvalidArgument ?b_InvalidArgument ?t_InvalidArgument ?E1_InvalidArgument ?E2_InvalidArgument ?E3_InvalidArgument ?E4_InvalidArgument ?s_InvalidArgument ?E5_InvalidArgument ?a_NotEnoughPieces ?x_NotEnoughPieces ?k_NotEnoughPieces ?b_NotEnoughPieces ?t_NotEnoughPieces ?E1_NotEnoughPieces ?E2_NotEnoughPieces ?E3_NotEnoughPieces ?E4_NotEnoughPieces ?s_NotEnoughPieces ?E5_NotEnoughPieces ?a_NoSpace ?x_NoSpace ?k_NoSpace ?b_NoSpace ?t_NoSpace ?E1_NoSpace ?E2_NoSpace ?E3_NoSpace ?E4_NoSpace ?s_NoSpace ?E5_NoSpace ?a_NotEnoughDisks ?x_NotEnoughDisks ?k_NotEnoughDisks ?b_NotEnoughDisks ?t_NotEnoughDisks ?E1_NotEnoughDisks ?E2_NotEnoughDisks ?E3_NotEnoughDisks ?E4_NotEnoughDisks ?s_NotEnoughDisks ?E5_NotEnoughDisks ?a_Damaged ?x_Damaged ?k_Damaged ?b_Damaged ?t_Damaged ?E1_Damaged ?E2_Damaged ?E3_Damaged ?E4_Damaged ?s_Damaged ?E5_Damaged ?E6 ?E7 ?u_InvalidArgument_PoolError ?u_NotEnoughDisks_PoolError
    (case a_Space => k_is)
    (case a_Store => k_is)
    (case a_is_present => k_is)
    (case l_is_present => k_is)
    (case q_is_present => k_is)
    (case k_is_present => k_is)
    (case a_sector_at => k_is)
    (case l_sector_at => k_is)
    (case q_sector_at => k_is)
    (case k_sector_at => k_is)
    (case a_inverse => k_is)
    (case l_inverse => k_is)
    (case q_inverse => k_is)
    (case k_inverse => k_is)
    (case a_weight => k_is)
    (case l_weight => k_is)
    (case q_weight => k_is)
    (case k_weight => k_is)
    (case a_weights => k_is)
    (case l_weights => k_is)
    (case q_weights => k_is)
    (case k_weights => k_is)
    (case a_check_lengths => k_is)
    (case l_check_lengths => k_is)
    (case q_check_lengths => k_is)
    (case k_check_lengths => k_is)
    (case a_piece_at => k_is)
    (case l_piece_at => k_is)
    (case q_piece_at => k_is)
    (case k_piece_at => k_is)
    (case a_encode => k_is)
    (case l_encode => k_is)
    (case q_encode => k_is)
    (case k_encode => k_is)
    (case a_present_numbers => k_is)
    (case l_present_numbers => k_is)
    (case q_present_numbers => k_is)
    (case k_present_numbers => k_is)
    (case a_recover => k_is)
    (case l_recover => k_is)
    (case q_recover => k_is)
    (case k_recover => k_is)
    (case a_check_words => k_is)
    (case l_check_words => k_is)
    (case q_check_words => k_is)
    (case k_check_words => k_is)
    (case a_is_place => k_is)
    (case l_is_place => k_is)
    (case q_is_place => k_is)
    (case k_is_place => k_is)
    (case a_seal => k_is)
    (case l_seal => k_is)
    (case q_seal => k_is)
    (case k_seal => k_is)
    (case a_unseal => k_is)
    (case l_unseal => k_is)
    (case q_unseal => k_is)
    (case k_unseal => k_is)
    (case a_is_whole => k_is)
    (case l_is_whole => k_is)
    (case q_is_whole => k_is)
    (case k_is_whole => k_is)
    (case a_choose_disks => k_is)
    (case l_choose_disks => k_is)
    (case q_choose_disks => k_is)
    (case k_choose_disks => k_is)
    (case a_piece_size => k_is)
    (case l_piece_size => k_is)
    (case q_piece_size => k_is)
    (case k_piece_size => k_is)
    (case a_data_pieces => k_is)
    (case l_data_pieces => k_is)
    (case q_data_pieces => k_is)
    (case k_data_pieces => k_is)
    (case a_piece_requests => k_is)
    (case l_piece_requests => k_is)
    (case q_piece_requests => k_is)
    (case k_piece_requests => k_is)
    (case a_write_stripe => k_is)
    (case l_write_stripe => k_is)
    (case q_write_stripe => k_is)
    (case k_write_stripe => k_is)
    (case a_good_piece => k_is)
    (case l_good_piece => k_is)
    (case q_good_piece => k_is)
    (case k_good_piece => k_is)
    (case a_read_stripe => k_is)
    (case l_read_stripe => k_is)
    (case q_read_stripe => k_is)
    (case k_read_stripe => k_is)
    (case a_law_pot => k_is)
    (case l_law_pot => k_is)
    (case q_law_pot => k_is)
    (case k_law_pot => k_is)
    (case a_law_next => k_is)
    (case l_law_next => k_is)
    (case q_law_next => k_is)
    (case k_law_next => k_is)
    (case a_law_add => k_is)
    (case l_law_add => k_is)
    (case q_law_add => k_is)
    (case k_law_add => k_is)
    (case a_law_drop => k_is)
    (case l_law_drop => k_is)
    (case q_law_drop => k_is)
    (case k_law_drop => k_is)
    (case a_law_put => k_is)
    (case l_law_put => k_is)
    (case q_law_put => k_is)
    (case k_law_put => k_is)
    (case a_law_looks_right => k_is)
    (case l_law_looks_right => k_is)
    (case q_law_looks_right => k_is)
    (case k_law_looks_right => k_is)
    (case a_law => k_is)
    (case l_law => k_is)
    (case q_law => k_is)
    (case k_law => k_is)
    (case a_Space_init => k_is)
    (case i_Space_init => k_is)
    (case l_Space_init => k_is)
    (case q_Space_init => k_is)
    (case k_Space_init => k_is)
    (case a_Space_take => k_is)
    (case i_Space_take => k_is)
    (case l_Space_take => k_is)
    (case q_Space_take => k_is)
    (case k_Space_take => k_is)
    (case a_Space_give => k_is)
    (case i_Space_give => k_is)
    (case l_Space_give => k_is)
    (case q_Space_give => k_is)
    (case k_Space_give => k_is)
    (case a_Space_settle => k_is)
    (case i_Space_settle => k_is)
    (case l_Space_settle => k_is)
    (case q_Space_settle => k_is)
    (case k_Space_settle => k_is)
    (case a_Space_free_count => k_is)
    (case i_Space_free_count => k_is)
    (case l_Space_free_count => k_is)
    (case q_Space_free_count => k_is)
    (case k_Space_free_count => k_is)
    (case a_Space_used_rows => k_is)
    (case i_Space_used_rows => k_is)
    (case l_Space_used_rows => k_is)
    (case q_Space_used_rows => k_is)
    (case k_Space_used_rows => k_is)
    (case a_Space_waiting_rows => k_is)
    (case i_Space_waiting_rows => k_is)
    (case l_Space_waiting_rows => k_is)
    (case q_Space_waiting_rows => k_is)
    (case k_Space_waiting_rows => k_is)
    (case a_Store_init => k_is)
    (case i_Store_init => k_is)
    (case l_Store_init => k_is)
    (case q_Store_init => k_is)
    (case k_Store_init => k_is)
    (case a_Store_look => k_is)
    (case i_Store_look => k_is)
    (case l_Store_look => k_is)
    (case q_Store_look => k_is)
    (case k_Store_look => k_is)
    (case a_Store_put => k_is)
    (case i_Store_put => k_is)
    (case l_Store_put => k_is)
    (case kw_Store_put => k_is)
    (case le_Store_put => k_is)
    (case q_Store_put => k_is)
    (case k_Store_put => k_is)
    (case a_Store_get => k_is)
    (case i_Store_get => k_is)
    (case l_Store_get => k_is)
    (case q_Store_get => k_is)
    (case k_Store_get => k_is)
    (case a_Store_commit => k_is)
    (case i_Store_commit => k_is)
    (case l_Store_commit => k_is)
    (case q_Store_commit => k_is)
    (case k_Store_commit => k_is)
    (case a_Store_forget => k_is)
    (case i_Store_forget => k_is)
    (case l_Store_forget => k_is)
    (case q_Store_forget => k_is)
    (case k_Store_forget => k_is)
    (case a_Store_add_member => k_is)
    (case i_Store_add_member => k_is)
    (case l_Store_add_member => k_is)
    (case q_Store_add_member => k_is)
    (case k_Store_add_member => k_is)
    (case a_Store_drop_member => k_is)
    (case i_Store_drop_member => k_is)
    (case l_Store_drop_member => k_is)
    (case q_Store_drop_member => k_is)
    (case k_Store_drop_member => k_is)
    (case a_Store_free_counts => k_is)
    (case i_Store_free_counts => k_is)
    (case l_Store_free_counts => k_is)
    (case q_Store_free_counts => k_is)
    (case k_Store_free_counts => k_is)
    (case a_PRIME => k_is)
    (case a_MAX_PIECES => k_is)
    (case a_MAX_DISKS => k_is)
    (case a_MAX_PAYLOAD => k_is)
    (case a_MAX_ROWS => k_is)
    (case a_FIRST_ROW => k_is)
    (case a_NEW => k_is)
    (case a_OLD => k_is)
    (case a_WAITING => k_is)
    (case a_LABEL => k_is)
    (case a_PIECE => k_is)
    (case a_HEADER_WORDS => k_is)
    (case a_CHECK_WORDS => k_is)
    (case n_len => k_is)
    (case n_enumerate => k_is)
    (case n_sum => k_is)
    (case n_zip => k_is)
    (case n_list => k_is)
    (case n_range => k_is)
    (case n_tuple => k_is)
    (case n_min => k_is)
    (case n_max => k_is)
    (case n_sorted => k_is)
    (case n_int => k_is)
    (case n_abs => k_is)
    (case n_isinstance => k_is)
    (case n_dict => k_is)
    (case n_all => k_is)
    (case pg_Space => k_is)
    (case hd_Space => k_is)
    (case po_Space => k_is)
    (case sa_Space => k_is)
    (case mk_Space => k_is)
    (case kc_Space => k_is)
    (case na_Space_first => k_is)
    (case na_Space_lowest => k_is)
    (case na_Space_rows => k_is)
    (case na_Space_states => k_is)
    (case pg_Store => k_is)
    (case hd_Store => k_is)
    (case po_Store => k_is)
    (case sa_Store => k_is)
    (case mk_Store => k_is)
    (case kc_Store => k_is)
    (case na_Store_blocks => k_is)
    (case na_Store_images => k_is)
    (case na_Store_made => k_is)
    (case na_Store_memory => k_is)
    (case na_Store_spaces => k_is)
    (case na_Store_data => k_is)
    (case na_Store_epoch => k_is)
    (case na_Store_members => k_is)
    (case na_Store_parity => k_is)
    (case na_Store_rows => k_is)
    (case a_PoolError => k_is)
    (case x_PoolError => k_exc)
    (case k_PoolError => k_is)
    (case b_PoolError => k_is)
    (case t_PoolError => k_is)
    (case E1_PoolError => k_is)
    (case E2_PoolError => k_is)
    (case E3_PoolError => k_is)
    (case E4_PoolError => k_is)
    (case s_PoolError => first | rfl | k_is)
    (case E5_PoolError => k_is)
    (case a_InvalidArgument => k_is)
    (case x_InvalidArgument => k_exc)
    (case k_InvalidArgument => k_is)
    (case b_InvalidArgument => k_is)
    (case t_InvalidArgument => k_is)
    (case E1_InvalidArgument => k_is)
    (case E2_InvalidArgument => k_is)
    (case E3_InvalidArgument => k_is)
    (case E4_InvalidArgument => k_is)
    (case s_InvalidArgument => first | rfl | k_is)
    (case E5_InvalidArgument => k_is)
    (case a_NotEnoughPieces => k_is)
    (case x_NotEnoughPieces => k_exc)
    (case k_NotEnoughPieces => k_is)
    (case b_NotEnoughPieces => k_is)
    (case t_NotEnoughPieces => k_is)
    (case E1_NotEnoughPieces => k_is)
    (case E2_NotEnoughPieces => k_is)
    (case E3_NotEnoughPieces => k_is)
    (case E4_NotEnoughPieces => k_is)
    (case s_NotEnoughPieces => first | rfl | k_is)
    (case E5_NotEnoughPieces => k_is)
    (case a_NoSpace => k_is)
    (case x_NoSpace => k_exc)
    (case k_NoSpace => k_is)
    (case b_NoSpace => k_is)
    (case t_NoSpace => k_is)
    (case E1_NoSpace => k_is)
    (case E2_NoSpace => k_is)
    (case E3_NoSpace => k_is)
    (case E4_NoSpace => k_is)
    (case s_NoSpace => first | rfl | k_is)
    (case E5_NoSpace => k_is)
    (case a_NotEnoughDisks => k_is)
    (case x_NotEnoughDisks => k_exc)
    (case k_NotEnoughDisks => k_is)
    (case b_NotEnoughDisks => k_is)
    (case t_NotEnoughDisks => k_is)
    (case E1_NotEnoughDisks => k_is)
    (case E2_NotEnoughDisks => k_is)
    (case E3_NotEnoughDisks => k_is)
    (case E4_NotEnoughDisks => k_is)
    (case s_NotEnoughDisks => first | rfl | k_is)
    (case E5_NotEnoughDisks => k_is)
    (case a_Damaged => k_is)
    (case x_Damaged => k_exc)
    (case k_Damaged => k_is)
    (case b_Damaged => k_is)
    (case t_Damaged => k_is)
    (case E1_Damaged => k_is)
    (case E2_Damaged => k_is)
    (case E3_Damaged => k_is)
    (case E4_Damaged => k_is)
    (case s_Damaged => first | rfl | k_is)
    (case E5_Damaged => k_is)
    (case E6 => k_is)
    (case E7 => k_is)
    (case u_InvalidArgument_PoolError => k_is)
    (case u_NotEnoughDisks_PoolError => k_is)
